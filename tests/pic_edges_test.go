package tests

import (
	"math"
	"slices"
	"strings"
	"testing"

	"loop.example/lucarne/impl"
)

// holdPic holds all that is told of a grid's picture against what was made without the program's help.
func holdPic(t *testing.T, g impl.Grid, pic []int, to [][]int, text string) {
	t.Helper()
	if got := impl.PicOf(g); !slices.Equal(got, pic) {
		t.Fatalf("PicOf(%v) is %v, not %v", g, got, pic)
	}
	if got := impl.PicTo(g); !sameRows(got, to) {
		t.Fatalf("PicTo(%v) is %v, not %v", g, got, to)
	}
	if got := impl.PicText(g, pic); got != text {
		t.Fatalf("PicText(%v, %v) is %q, not %q", g, pic, got, text)
	}
}

func TestPicOfEachGrid(t *testing.T) {
	for _, g := range slices.Concat(picGrids(t), smallGrids()) {
		pic := handPic(g)
		holdPic(t, g, pic, handTo(g), handPicText(g, pic))
	}
}

func TestPicsByHand(t *testing.T) {
	for _, x := range []struct {
		grid string
		text string
		pic  []int
		to   [][3]int
	}{
		// One row, one column: the sides are of three sights and of one.
		{":9.\n", "0 576 0\n576\n0 576 0\n288\n", []int{0, 576, 0, 576, 0, 576, 0, 288}, [][3]int{{0, 6, 32}, {2, 4, 64}}},
		{":\n9\n.\n", "288\n0 576 0\n576\n0 576 0\n", []int{288, 0, 576, 0, 576, 0, 576, 0}, [][3]int{{1, 7, 32}, {3, 5, 64}}},
		// More columns than rows, and more rows than columns.
		{"xx3\n\\.8\n", "256 128 192\n192 512\n512 96 0\n0 48\n", []int{256, 128, 192, 192, 512, 512, 96, 0, 0, 48}, [][3]int{{0, 9, 32}, {1, 6, 32}, {1, 9, 16}, {7, 8, 64}}},
		{"z9\n1#\n.:\n", "320 576\n576 0 0\n0 64\n0 64 320\n", []int{320, 576, 576, 0, 0, 0, 64, 0, 64, 320}, [][3]int{{4, 7, 32}}},
		// What comes back to where it came in, and goes to the next side.
		{"/x\n\\/\n", "0 0\n0 0\n0 0\n0 0\n", make([]int, 8), [][3]int{{0, 7, 64}, {1, 1, 32}, {1, 2, 32}, {2, 2, 32}, {3, 4, 64}, {5, 6, 64}}},
	} {
		g := mustRead(t, x.grid)
		holdPic(t, g, x.pic, pairs(len(x.pic), x.to), x.text)
	}
}

func TestPicsOfOneCell(t *testing.T) {
	onward := [][3]int{{0, 2, 64}, {1, 3, 64}}
	bySlash := [][3]int{{0, 3, 64}, {1, 2, 64}}
	byBack := [][3]int{{0, 1, 64}, {2, 3, 64}}
	half := [][3]int{{0, 2, 32}, {1, 3, 32}}
	to := map[byte][][3]int{
		'.': onward, '/': bySlash, '\\': byBack, ':': half,
		'x': append(slices.Clone(half), [3]int{0, 3, 32}, [3]int{1, 2, 32}),
		'z': append(slices.Clone(half), [3]int{0, 1, 32}, [3]int{2, 3, 32}),
	}
	texts := []string{"0\n0\n0\n0\n", "64\n64\n64\n64\n", "128\n128\n128\n128\n", "192\n192\n192\n192\n", "256\n256\n256\n256\n",
		"320\n320\n320\n320\n", "384\n384\n384\n384\n", "448\n448\n448\n448\n", "512\n512\n512\n512\n", "576\n576\n576\n576\n"}
	for _, s := range signedCells() {
		g := impl.Grid{Wide: 1, Cells: []impl.Cell{s.cell}}
		light := 64 * s.cell.Light
		holdPic(t, g, []int{light, light, light, light}, pairs(4, to[s.sign]), texts[s.cell.Light])
	}
}

// across is, of five by five, so much from each sight to the one on the other side.
func across(much int) [][3]int {
	var list [][3]int
	for i := range 5 {
		list = append(list, [3]int{i, 14 - i, much}, [3]int{5 + i, 19 - i, much})
	}
	return list
}

func TestPicsOfFiveByFive(t *testing.T) {
	for _, x := range []struct {
		sign  string
		light int
		text  string
		to    [][3]int
	}{
		{".", 0, "0 0 0 0 0\n", across(64)},
		{":", 0, "0 0 0 0 0\n", across(2)},
		{"#", 0, "0 0 0 0 0\n", nil},
		{"1", 64, "64 64 64 64 64\n", nil},
		{"9", 576, "576 576 576 576 576\n", nil},
	} {
		holdPic(t, whole(t, x.sign), slices.Repeat([]int{x.light}, 20), pairs(20, x.to), strings.Repeat(x.text, 4))
	}
}

func TestPicsOfFiveByFiveOfGlass(t *testing.T) {
	for _, x := range []struct {
		sign string
		k    int
		row  []int
	}{
		{"x", 0, []int{0, 0, 0, 0, 0, 0, 0, 0, 0, 0, 0, 0, 0, 0, 2, 2, 4, 8, 16, 32}},
		{"x", 19, []int{32, 16, 8, 4, 2, 2, 0, 0, 0, 0, 0, 0, 0, 0, 0, 0, 0, 0, 0, 0}},
		{"z", 4, []int{0, 0, 0, 0, 0, 32, 16, 8, 4, 2, 2, 0, 0, 0, 0, 0, 0, 0, 0, 0}},
		{"z", 5, []int{2, 4, 8, 16, 32, 0, 0, 0, 0, 0, 0, 0, 0, 0, 0, 0, 0, 0, 0, 2}},
	} {
		g := whole(t, x.sign)
		holdPic(t, g, make([]int, 20), handTo(g), strings.Repeat("0 0 0 0 0\n", 4))
		if got := impl.PicTo(g)[x.k]; !slices.Equal(got, x.row) {
			t.Errorf("%s: from %d goes %v, not %v", x.sign, x.k, got, x.row)
		}
	}
}

func TestNoLampOneLampAllLamps(t *testing.T) {
	for _, x := range []struct{ grid, text string }{
		{"...\n...\n", "0 0 0\n0 0\n0 0 0\n0 0\n"},
		{"...\n.4.\n", "0 256 0\n0 256\n0 256 0\n256 0\n"},
		{"444\n444\n", "256 256 256\n256 256\n256 256 256\n256 256\n"},
		{"123\n456\n", "64 128 192\n192 384\n384 320 256\n256 64\n"},
	} {
		g := mustRead(t, x.grid)
		if got := impl.PicText(g, impl.PicOf(g)); got != x.text {
			t.Errorf("%q: %q, not %q", x.grid, got, x.text)
		}
	}
}

func TestPicTextOfEachSize(t *testing.T) {
	for _, x := range []struct {
		wide, rows int
		text       string
	}{
		{1, 1, "0\n1\n2\n3\n"},
		{5, 1, "0 1 2 3 4\n5\n6 7 8 9 10\n11\n"},
		{1, 5, "0\n1 2 3 4 5\n6\n7 8 9 10 11\n"},
		{2, 1, "0 1\n2\n3 4\n5\n"},
		{1, 2, "0\n1 2\n3\n4 5\n"},
		{3, 2, "0 1 2\n3 4\n5 6 7\n8 9\n"},
		{2, 3, "0 1\n2 3 4\n5 6\n7 8 9\n"},
		{5, 4, "0 1 2 3 4\n5 6 7 8\n9 10 11 12 13\n14 15 16 17\n"},
		{4, 5, "0 1 2 3\n4 5 6 7 8\n9 10 11 12\n13 14 15 16 17\n"},
		{5, 5, "0 1 2 3 4\n5 6 7 8 9\n10 11 12 13 14\n15 16 17 18 19\n"},
	} {
		g := impl.Grid{Wide: x.wide, Cells: freeCells(x.wide * x.rows)}
		if got := impl.PicText(g, countUp(2*(x.wide+x.rows))); got != x.text {
			t.Errorf("%d, %d: %q, not %q", x.wide, x.rows, got, x.text)
		}
	}
}

func TestPicTextOfAnyNumbers(t *testing.T) {
	pic := []int{0, -1, 10, -10, 576, 1000000, -1000000, math.MaxInt64, math.MinInt64, 7}
	want := "0 -1 10\n-10 576\n1000000 -1000000 9223372036854775807\n-9223372036854775808 7\n"
	// The text hangs on the size of the grid and on the numbers, not on how bright it is.
	for _, text := range []string{"...\n...\n", "xx3\n\\.8\n", "999\n999\n"} {
		if got := impl.PicText(mustRead(t, text), pic); got != want {
			t.Errorf("%q: %q", text, got)
		}
	}
}

func TestPicTextOfTooFewAndTooMany(t *testing.T) {
	for _, g := range slices.Concat(freeGrids(), wholeGrids(), roundGrids(t)) {
		many := len(handSights(g))
		if text := impl.PicText(g, nil); text != "" {
			t.Errorf("%v: no numbers have the text %q", g, text)
		}
		for _, other := range []int{0, 1, many / 2, many - 1, many + 1, 2 * many, 100000} {
			if text := impl.PicText(g, countUp(other)); text != "" {
				t.Errorf("%v: %d numbers have the text %q", g, other, text)
			}
		}
		// What lies in spare room does not count.
		if text := impl.PicText(g, countUp(many)[:many-1]); text != "" {
			t.Errorf("%v: one too few, with spare room, have the text %q", g, text)
		}
		if impl.PicText(g, countUp(many + 1)[:many]) == "" {
			t.Errorf("%v: as many as there are, with spare room, have no text", g)
		}
	}
}

func TestPicsOfWrongGrids(t *testing.T) {
	for why, g := range wrongGrids() {
		if pic := impl.PicOf(g); len(pic) != 0 {
			t.Errorf("%s: the picture %v", why, pic)
		}
		if to := impl.PicTo(g); len(to) != 0 {
			t.Errorf("%s: from sight to sight goes %v", why, to)
		}
		if text := impl.PicText(g, nil); text != "" {
			t.Errorf("%s: no numbers have the text %q", why, text)
		}
		for many := range 30 {
			if text := impl.PicText(g, countUp(many)); text != "" {
				t.Errorf("%s: %d numbers have the text %q", why, many, text)
			}
		}
	}
}

func TestPicsEndAtTheEndInSpareRoom(t *testing.T) {
	g := impl.Grid{Wide: 2, Cells: mustRead(t, "..\n..\n99\n").Cells[:4]}
	holdPic(t, g, make([]int, 8), pairs(8, [][3]int{{0, 5, 64}, {1, 4, 64}, {2, 7, 64}, {3, 6, 64}}), "0 0\n0 0\n0 0\n0 0\n")
}
