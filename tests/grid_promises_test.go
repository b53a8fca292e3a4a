package tests

import (
	"slices"
	"strings"
	"testing"

	"loop.example/lucarne/impl"
)

func turned(g impl.Grid, times int) impl.Grid {
	for range times {
		g = impl.GridTurn(g)
	}
	return g
}

func put(t *testing.T, g impl.Grid, at int, c impl.Cell) impl.Grid {
	t.Helper()
	x, ok := impl.GridPut(g, at, c)
	if !ok {
		t.Fatalf("GridPut(%v, %d, %v) is false", g, at, c)
	}
	return x
}

func TestPromise1ReadBack(t *testing.T) {
	for _, g := range append(someGrids(), allGrids(2, 2)...) {
		if !impl.GridOk(g) {
			t.Fatalf("not ok: %v", g)
		}
		text := impl.GridText(g)
		if text != handText(t, g) {
			t.Fatalf("text of %v: %q", g, text)
		}
		back, ok := impl.GridRead(text)
		if !ok || !sameGrid(back, g) {
			t.Fatalf("%q is read as %v, %v", text, back, ok)
		}
	}
}

// handTexts is the texts of all grids with at most three cells: all texts of at most four bytes that are a grid's are among them.
func handTexts(t *testing.T) map[string]impl.Grid {
	texts := map[string]impl.Grid{}
	for _, g := range slices.Concat(smallGrids(), allGrids(3, 1), allGrids(1, 3)) {
		texts[handText(t, g)] = g
	}
	return texts
}

func TestPromise2OneWayShortTexts(t *testing.T) {
	texts := handTexts(t)
	signs := "\n\r 0a-X;\x00./\\#xz:19"
	short := []string{""}
	for first := 0; len(short[first]) < 4; first++ {
		for _, sign := range signs {
			short = append(short, short[first]+string(sign))
		}
	}
	for _, text := range short {
		g, ok := impl.GridRead(text)
		want, there := texts[text]
		if ok != there || !sameGrid(g, want) {
			t.Fatalf("%q is read as %v, %v", text, g, ok)
		}
		if ok && (!impl.GridOk(g) || impl.GridText(g) != text) {
			t.Fatalf("%q: its grid has the text %q", text, impl.GridText(g))
		}
	}
}

// isGridText says, without the program's help, whether a text is a grid's.
func isGridText(text string) bool {
	rows := strings.SplitAfter(text, "\n")
	last := len(rows) - 1
	if rows[last] != "" || last < 1 || last > 5 {
		return false
	}
	for _, row := range rows[:last] {
		cells := strings.Trim(row, "./\\#xz:123456789")
		if cells != "\n" || len(row) != len(rows[0]) || len(row) < 2 || len(row) > 6 {
			return false
		}
	}
	return true
}

func TestPromise2OneWaySpoiltTexts(t *testing.T) {
	signs := "\n\r 0ax#9./\x80"
	for _, g := range someGrids() {
		text := handText(t, g)
		spoilt := []string{text + text, "\n" + text}
		for at := range len(text) {
			spoilt = append(spoilt, text[:at], text[at:], text[:at]+text[at+1:])
			for _, sign := range []byte(signs) {
				one := string([]byte{sign})
				spoilt = append(spoilt, text[:at]+one+text[at:], text[:at]+one+text[at+1:])
			}
		}
		for _, s := range spoilt {
			x, ok := impl.GridRead(s)
			if ok != isGridText(s) {
				t.Fatalf("%q is read as %v, %v", s, x, ok)
			}
			if ok && (!impl.GridOk(x) || impl.GridText(x) != s) {
				t.Fatalf("%q: its grid has the text %q", s, impl.GridText(x))
			}
			if !ok && !isNoGrid(x) {
				t.Fatalf("%q is false, but with %v", s, x)
			}
		}
	}
}

func TestPromise3SameJustIfTexts(t *testing.T) {
	grids := someGrids()
	texts := make([]string, len(grids))
	for i, g := range grids {
		texts[i] = impl.GridText(g)
	}
	for i, a := range grids {
		for k, b := range grids {
			if sameGrid(a, b) != (texts[i] == texts[k]) {
				t.Fatalf("%v, %v: %q, %q", a, b, texts[i], texts[k])
			}
		}
	}
}

func TestPromise4PutIsThereAlone(t *testing.T) {
	for _, g := range someGrids() {
		for at, old := range g.Cells {
			for _, c := range okCells() {
				x := put(t, g, at, c)
				want := copyGrid(g)
				want.Cells[at] = c
				if !sameGrid(x, want) {
					t.Fatalf("GridPut(%v, %d, %v) is %v", g, at, c, x)
				}
				if !sameGrid(put(t, x, at, old), g) || !sameGrid(put(t, g, at, old), g) {
					t.Fatalf("%v, with %v put back at %d, is another", g, old, at)
				}
			}
		}
	}
}

func TestPromise5PutTwice(t *testing.T) {
	d := &dice{5}
	cells := okCells()
	for _, g := range someGrids() {
		for range 20 {
			a, b := d.roll(len(g.Cells)), d.roll(len(g.Cells))
			c, e := cells[d.roll(len(cells))], cells[d.roll(len(cells))]
			if !sameGrid(put(t, put(t, g, a, c), a, e), put(t, g, a, e)) {
				t.Fatalf("%v: the second cell at %d does not count", g, a)
			}
			if a == b {
				continue
			}
			first, second := put(t, put(t, g, a, c), b, e), put(t, put(t, g, b, e), a, c)
			if !sameGrid(first, second) || first.Cells[a] != c || first.Cells[b] != e {
				t.Fatalf("%v: %v, %v at %d, %d", g, first, second, a, b)
			}
		}
	}
}

func TestPromise6Turns(t *testing.T) {
	for _, g := range someGrids() {
		x, rows := impl.GridTurn(g), rowsOf(g)
		if !impl.GridOk(x) || x.Wide != rows || len(x.Cells) != len(g.Cells) {
			t.Fatalf("%v turned is %v", g, x)
		}
		for column := range g.Wide {
			if x.Cells[column*rows+rows-1] != handLean(g.Cells[column]) {
				t.Fatalf("%v turned is %v: the last column is not the first row", g, x)
			}
		}
		down := copyGrid(g)
		slices.Reverse(down.Cells)
		if !sameGrid(turned(g, 2), down) {
			t.Fatalf("%v turned twice is %v", g, turned(g, 2))
		}
		if !sameGrid(turned(g, 4), g) {
			t.Fatalf("%v turned four times is %v", g, turned(g, 4))
		}
	}
}

func TestPromise7Flips(t *testing.T) {
	for _, g := range someGrids() {
		x := impl.GridFlip(g)
		if !impl.GridOk(x) || x.Wide != g.Wide || len(x.Cells) != len(g.Cells) {
			t.Fatalf("%v flipped is %v", g, x)
		}
		for row := range rowsOf(g) {
			for column := range g.Wide {
				if x.Cells[row*g.Wide+g.Wide-1-column] != handLean(g.Cells[row*g.Wide+column]) {
					t.Fatalf("%v flipped is %v", g, x)
				}
			}
		}
		if !sameGrid(impl.GridFlip(x), g) {
			t.Fatalf("%v flipped twice is %v", g, impl.GridFlip(x))
		}
		if !sameGrid(impl.GridFlip(impl.GridTurn(g)), turned(x, 3)) {
			t.Fatalf("%v: flipped behind a turn it is not turned three times behind a flip", g)
		}
	}
}

// tally is how many cells there are of each kind and light, those that lean of both ways together.
func tally(g impl.Grid) map[impl.Cell]int {
	many := map[impl.Cell]int{}
	for _, c := range g.Cells {
		if c.Kind == impl.CellBack || c.Kind == impl.CellPane {
			c = handLean(c)
		}
		many[c]++
	}
	return many
}

func TestPromise8AsManyOfEachKind(t *testing.T) {
	for _, g := range someGrids() {
		want := tally(g)
		for _, x := range []impl.Grid{impl.GridTurn(g), impl.GridFlip(g)} {
			got := tally(x)
			if len(x.Cells) != len(g.Cells) || len(got) != len(want) {
				t.Fatalf("%v, %v", g, x)
			}
			for c, many := range want {
				if got[c] != many {
					t.Fatalf("%v, %v: %d of %v", g, x, got[c], c)
				}
			}
		}
	}
}

func TestPromise9OneBelowTheOther(t *testing.T) {
	d := &dice{9}
	for wide := 1; wide <= 5; wide++ {
		for above := 1; above <= 5; above++ {
			for below := 1; below <= 5; below++ {
				a, b := rolledGrid(d, wide, above), rolledGrid(d, wide, below)
				both := impl.Grid{Wide: wide, Cells: slices.Concat(a.Cells, b.Cells)}
				fits := above+below <= 5
				text, want := impl.GridText(a)+impl.GridText(b), ""
				if fits {
					want = text
				}
				if impl.GridOk(both) != fits || impl.GridText(both) != want {
					t.Fatalf("%d rows of %d: %q", above+below, wide, impl.GridText(both))
				}
				x, ok := impl.GridRead(text)
				if ok != fits || ok && !sameGrid(x, both) {
					t.Fatalf("%q is read as %v, %v", text, x, ok)
				}
			}
		}
	}
}

func TestPromise10PutAndTurned(t *testing.T) {
	for _, g := range someGrids() {
		rows := rowsOf(g)
		for at := range g.Cells {
			row, column := at/g.Wide, at%g.Wide
			for _, c := range okCells() {
				if handLean(c) != c {
					continue
				}
				x := put(t, g, at, c)
				if !sameGrid(impl.GridTurn(x), put(t, impl.GridTurn(g), column*rows+rows-1-row, c)) {
					t.Fatalf("%v, %v at %d, turned: %v", g, c, at, impl.GridTurn(x))
				}
				if !sameGrid(impl.GridFlip(x), put(t, impl.GridFlip(g), row*g.Wide+g.Wide-1-column, c)) {
					t.Fatalf("%v, %v at %d, flipped: %v", g, c, at, impl.GridFlip(x))
				}
			}
		}
	}
}

func TestPromise11OneCell(t *testing.T) {
	seen := map[string]impl.Cell{}
	for kind := -300; kind <= 300; kind++ {
		for light := -300; light <= 300; light++ {
			c := impl.Cell{Kind: kind, Light: light}
			text := impl.GridText(impl.Grid{Wide: 1, Cells: []impl.Cell{c}})
			sign, ok := handSign(c)
			want := ""
			if ok {
				want = string(rune(sign)) + "\n"
			}
			if impl.CellOk(c) != ok || text != want {
				t.Fatalf("%v is %v, %q", c, impl.CellOk(c), text)
			}
			if other, there := seen[text]; there && ok {
				t.Fatalf("%v and %v are %q", c, other, text)
			}
			seen[text] = c
		}
	}
	if len(seen) != 17 {
		t.Fatalf("%d texts, with the empty one", len(seen))
	}
}
