package tests

import (
	"math"
	"slices"
	"strings"
	"testing"

	"loop.example/lucarne/impl"
)

// holdScene fails unless a scene has this grid, is written so, and is ok.
func holdScene(t *testing.T, s impl.Scene, grid, text string) {
	t.Helper()
	if handText(t, s.Grid) != grid || len(s.Lights) != len(s.Feet) || sceneText(s) != text || !impl.SceneOk(s) {
		t.Fatalf("the scene %q\n%s, not\n%q\n%s", handText(t, s.Grid), sceneText(s), grid, text)
	}
}

// holdTouch fails unless just these sights see a place.
func holdTouch(t *testing.T, s impl.Scene, at int, want ...int) {
	t.Helper()
	if got := impl.SceneTouch(s, at); !slices.Equal(got, want) {
		t.Fatalf("%q: %v see %d, not %v", handText(t, s.Grid), got, at, want)
	}
}

// holdMany fails unless, behind these edits, the scene is this one, and just these sights were looked at.
func holdMany(t *testing.T, grid string, list []impl.Edit, behind, text string, want ...int) impl.Scene {
	t.Helper()
	x, anew := mustMany(t, mustScene(t, mustRead(t, grid)), list...)
	holdScene(t, x, behind, text)
	if !slices.Equal(anew, want) {
		t.Fatalf("%q with %v: %v look anew, not %v", grid, list, anew, want)
	}
	return x
}

func TestScenesByHand(t *testing.T) {
	for _, x := range []struct{ grid, text string }{
		{"./5\n", "0:0 0:0,1 320:2 320:2 320:2 320:1,2 0:0 0:0,1"},
		{".\n/\n5\n", "0:0,1 0:0 320:1,2 320:2 320:2 320:2 0:0,1 0:0"},
		{"x.\n:5\n", "0:0,2 320:1,3 0:0,1,2 320:3 320:3 0:0,1,2 160:2,3 0:0,1"},
		{"x5\n", "0:0 320:1 320:1 320:1 160:0,1 160:0,1"},
	} {
		s := mustScene(t, mustRead(t, x.grid))
		holdScene(t, s, x.grid, x.text)
	}
}

func TestScenesOfOneCell(t *testing.T) {
	texts := []string{"0:0 0:0 0:0 0:0", "64:0 64:0 64:0 64:0", "128:0 128:0 128:0 128:0", "192:0 192:0 192:0 192:0", "256:0 256:0 256:0 256:0",
		"320:0 320:0 320:0 320:0", "384:0 384:0 384:0 384:0", "448:0 448:0 448:0 448:0", "512:0 512:0 512:0 512:0", "576:0 576:0 576:0 576:0"}
	for _, from := range signedCells() {
		s := mustScene(t, impl.Grid{Wide: 1, Cells: []impl.Cell{from.cell}})
		holdScene(t, s, string(rune(from.sign))+"\n", texts[from.cell.Light])
		holdTouch(t, s, 0, 0, 1, 2, 3)
		for _, to := range signedCells() {
			x, anew := mustEdit(t, s, impl.Edit{At: 0, Cell: to.cell})
			holdScene(t, x, string(rune(to.sign))+"\n", texts[to.cell.Light])
			if !slices.Equal(anew, []int{0, 1, 2, 3}) {
				t.Fatalf("%v look anew", anew)
			}
		}
	}
}

func TestScenesOfFiveByFive(t *testing.T) {
	free, walls, glass := mustScene(t, whole(t, ".")), mustScene(t, whole(t, "#")), mustScene(t, whole(t, "x"))
	for row := range 5 {
		for column := range 5 {
			holdTouch(t, free, row*5+column, column, 5+row, 14-column, 19-row)
			var first []int
			for k, r := range handSights(walls.Grid) {
				if r.At == row*5+column {
					first = append(first, k)
				}
			}
			holdTouch(t, walls, row*5+column, first...)
		}
	}
	// The middle of walls is seen by nobody, a corner by two, any other cell at an edge by one.
	holdTouch(t, walls, 12)
	holdTouch(t, walls, 0, 0, 19)
	holdTouch(t, walls, 24, 9, 10)
	holdTouch(t, walls, 2, 2)
	holdScene(t, walls, strings.Repeat("#####\n", 5), "0:0 0:1 0:2 0:3 0:4 0:4 0:9 0:14 0:19 0:24 0:24 0:23 0:22 0:21 0:20 0:20 0:15 0:10 0:5 0:0")
	if foot := glass.Feet[0]; !slices.Equal(foot, []int{0, 5, 10, 15, 20}) {
		t.Errorf("glass: the sight 0 sees %v", foot)
	}
	if foot := glass.Feet[19]; !slices.Equal(foot, []int{0, 1, 2, 3, 4}) {
		t.Errorf("glass: the sight 19 sees %v", foot)
	}
	for _, s := range []impl.Scene{free, walls, glass} {
		if slices.Max(s.Lights) != 0 {
			t.Errorf("%v is bright without a lamp", s)
		}
		for at := range 25 {
			for _, e := range []impl.Edit{edit(at, "9"), edit(at, "/"), edit(at, "z")} {
				if x, anew := mustEdit(t, s, e); !sameScene(x, handScene(handPut(s.Grid, e))) || !slices.Equal(anew, handTouch(s.Grid, at)) {
					t.Fatalf("%v with %v: %v, %v", s.Grid, e, x, anew)
				}
			}
		}
	}
}

func TestNoEdits(t *testing.T) {
	holdMany(t, "./5\n", nil, "./5\n", "0:0 0:0,1 320:2 320:2 320:2 320:1,2 0:0 0:0,1")
	holdMany(t, "./5\n", []impl.Edit{}, "./5\n", "0:0 0:0,1 320:2 320:2 320:2 320:1,2 0:0 0:0,1")
}

func TestTwoEditsOfOnePlace(t *testing.T) {
	free := "0:0 0:1 0:2 0:0,1,2 0:2 0:1 0:0 0:0,1,2"
	// The second one puts back what was there: nothing is another one, but they look.
	holdMany(t, "...\n", []impl.Edit{edit(1, "#"), edit(1, ".")}, "...\n", free, 1, 3, 5, 7)
	holdMany(t, "...\n", []impl.Edit{edit(1, "#"), edit(1, "9")}, ".9.\n", "0:0 576:1 0:2 576:1,2 0:2 576:1 0:0 576:0,1", 1, 3, 5, 7)
	holdMany(t, "...\n", []impl.Edit{edit(1, "9"), edit(1, "#")}, ".#.\n", "0:0 0:1 0:2 0:1,2 0:2 0:1 0:0 0:0,1", 1, 3, 5, 7)
	// An edit that puts what is there already is looked at, too.
	holdMany(t, "...\n", []impl.Edit{edit(1, ".")}, "...\n", free, 1, 3, 5, 7)
	holdMany(t, "...\n", []impl.Edit{edit(1, "."), edit(1, ".")}, "...\n", free, 1, 3, 5, 7)
	// Back to what was there, with another edit in between and behind.
	holdMany(t, "...\n", []impl.Edit{edit(0, "#"), edit(2, "9"), edit(0, "."), edit(2, ".")}, "...\n", free, 0, 2, 3, 4, 6, 7)
}

func TestPlacesSeenOnlyAhead(t *testing.T) {
	// The wall at 0 hides 2 from the sight 7.
	text := "0:0 0:1 576:2 576:2 576:2 0:1 0:0 0:0"
	holdTouch(t, mustScene(t, mustRead(t, "...\n")), 2, 2, 3, 4, 7)
	x := holdMany(t, "...\n", []impl.Edit{edit(0, "#"), edit(2, "9")}, "#.9\n", text, 0, 2, 3, 4, 6, 7)
	holdMany(t, "...\n", []impl.Edit{edit(2, "9"), edit(0, "#")}, "#.9\n", text, 0, 2, 3, 4, 6, 7)
	holdTouch(t, x, 2, 2, 3, 4)
	// One that sees the place ahead is looked at for that alone.
	holdMany(t, "...\n", []impl.Edit{edit(2, "9")}, "..9\n", "0:0 0:1 576:2 576:2 576:2 0:1 0:0 576:0,1,2", 2, 3, 4, 7)
}

func TestPlacesSeenOnlyBehind(t *testing.T) {
	// Without the wall at 0 the sight 7 sees the lamp that comes to 2.
	text := "0:0 0:1 576:2 576:2 576:2 0:1 0:0 576:0,1,2"
	holdTouch(t, mustScene(t, mustRead(t, "#..\n")), 2, 2, 3, 4)
	x := holdMany(t, "#..\n", []impl.Edit{edit(0, "."), edit(2, "9")}, "..9\n", text, 0, 2, 3, 4, 6, 7)
	holdMany(t, "#..\n", []impl.Edit{edit(2, "9"), edit(0, ".")}, "..9\n", text, 0, 2, 3, 4, 6, 7)
	holdTouch(t, x, 2, 2, 3, 4, 7)
	// Of the lamp alone it sees nothing, and does not look.
	holdMany(t, "#..\n", []impl.Edit{edit(2, "9")}, "#.9\n", "0:0 0:1 576:2 576:2 576:2 0:1 0:0 0:0", 2, 3, 4)
}

func TestPlacesSeenAheadAndBehindByAMirror(t *testing.T) {
	ahead := mustScene(t, mustRead(t, "...\n...\n"))
	holdTouch(t, ahead, 1, 1, 3, 6, 9)
	holdTouch(t, ahead, 3, 0, 4, 7, 8)
	behind := holdMany(t, "...\n...\n", []impl.Edit{edit(0, "\\")}, "\\..\n...\n",
		"0:0,1,2 0:1,4 0:2,5 0:0,1,2 0:3,4,5 0:2,5 0:1,4 0:0,3 0:3,4,5 0:0,3", 0, 3, 7, 9)
	holdTouch(t, behind, 1, 0, 1, 3, 6)
	holdTouch(t, behind, 3, 4, 7, 8, 9)
	holdMany(t, "...\n...\n", []impl.Edit{edit(0, "\\"), edit(3, "9")}, "\\..\n9..\n",
		"0:0,1,2 0:1,4 0:2,5 0:0,1,2 576:3,4,5 0:2,5 0:1,4 576:3 576:3 576:0,3", 0, 3, 4, 7, 8, 9)
}

func TestPlaceThatNobodySees(t *testing.T) {
	ring := "0:0 0:1 0:2 0:2 0:5 0:8 0:8 0:7 0:6 0:6 0:3 0:0"
	for _, sign := range []string{".", "#", "/", "\\", "x", "z", ":", "1", "9"} {
		x := holdMany(t, "###\n#.#\n###\n", []impl.Edit{edit(4, sign)}, "###\n#"+sign+"#\n###\n", ring)
		holdTouch(t, x, 4)
		holdMany(t, "###\n#.#\n###\n", []impl.Edit{edit(4, sign), edit(4, "5")}, "###\n#5#\n###\n", ring)
	}
	// Behind a wall that goes, the lamp that was put where nobody saw it is seen.
	holdMany(t, "###\n#.#\n###\n", []impl.Edit{edit(4, "5"), edit(1, ".")}, "#.#\n#5#\n###\n",
		"0:0 320:1,4 0:2 0:2 0:5 0:8 0:8 0:7 0:6 0:6 0:3 0:0", 1)
}

func TestFirstPlaceAndLast(t *testing.T) {
	holdMany(t, "..\n..\n", []impl.Edit{edit(0, "9")}, "9.\n..\n", "576:0 0:1,3 576:0,1 0:2,3 0:1,3 576:0,2 0:2,3 576:0", 0, 2, 5, 7)
	holdMany(t, "..\n..\n", []impl.Edit{edit(3, "9")}, "..\n.9\n", "0:0,2 576:1,3 0:0,1 576:3 576:3 0:0,2 576:2,3 0:0,1", 1, 3, 4, 6)
	holdMany(t, "..\n..\n", []impl.Edit{edit(3, "9"), edit(0, "#")}, "#.\n.9\n", "0:0 576:1,3 0:0,1 576:3 576:3 0:0,2 576:2,3 0:0", 0, 1, 2, 3, 4, 5, 6, 7)
	for _, g := range sceneGrids(t) {
		s := mustScene(t, g)
		for _, at := range []int{0, len(g.Cells) - 1} {
			e := edit(at, "7")
			if x, anew := mustEdit(t, s, e); !sameScene(x, handScene(handPut(g, e))) || !slices.Equal(anew, handTouch(g, at)) || len(anew) < 2 {
				t.Fatalf("%v with %v: %v, %v", g, e, x, anew)
			}
		}
	}
}

func TestEditMax(t *testing.T) {
	if impl.EditMax != 20 {
		t.Fatalf("EditMax is %d", impl.EditMax)
	}
	d := &dice{20}
	for _, g := range sceneGrids(t) {
		s := mustScene(t, g)
		for _, list := range [][]impl.Edit{rolledEdits(d, g, 21), slices.Repeat([]impl.Edit{edit(0, "4")}, 21), slices.Repeat([]impl.Edit{{At: 0, Cell: g.Cells[0]}}, 21)} {
			x, anew := mustMany(t, s, list[:20]...)
			if !sameScene(x, handScene(handPut(g, list[:20]...))) || !slices.Equal(anew, handTouches(g, list[:20])) {
				t.Fatalf("%v with %v: %v, %v", g, list[:20], x, anew)
			}
			holdNotDone(t, s, list)
		}
		holdNotDone(t, s, make([]impl.Edit, 22))
	}
	holdNotDone(t, mustScene(t, mustRead(t, ".\n")), make([]impl.Edit, 100000))
}

// holdNotDone fails unless these edits are not done, and nothing is answered beside that.
func holdNotDone(t *testing.T, s impl.Scene, list []impl.Edit) {
	t.Helper()
	if x, anew, ok := impl.SceneMany(s, list); ok || !isNoScene(x) || len(anew) != 0 {
		t.Fatalf("%v with %d edits, %s: %v, %v, %v", s, len(list), short(list), x, anew, ok)
	}
	if len(list) != 1 {
		return
	}
	if x, anew, ok := impl.SceneEdit(s, list[0]); ok || !isNoScene(x) || len(anew) != 0 {
		t.Fatalf("%v with %v: %v, %v, %v", s, list[0], x, anew, ok)
	}
}

// wrongCells is cells that are not ok.
func wrongCells() []impl.Cell {
	cells := []impl.Cell{{Kind: 7}, {Kind: 7, Light: 10}, {Kind: 7, Light: -1}, {Light: 1}, {Kind: 1, Light: 9}, {Kind: 4, Light: -1}, {Kind: 7, Light: math.MaxInt}}
	for _, kind := range wrongKinds() {
		cells = append(cells, impl.Cell{Kind: kind}, impl.Cell{Kind: kind, Light: 1})
	}
	return cells
}

// wrongEdits is edits that cannot be done in a grid.
func wrongEdits(g impl.Grid) []impl.Edit {
	var list []impl.Edit
	for _, at := range wrongPlaces(g) {
		list = append(list, edit(at, "."), edit(at, "5"))
	}
	for _, c := range wrongCells() {
		list = append(list, impl.Edit{At: 0, Cell: c}, impl.Edit{At: len(g.Cells) - 1, Cell: c})
	}
	return append(list, impl.Edit{At: -1, Cell: impl.Cell{Kind: -1}}, impl.Edit{At: len(g.Cells), Cell: impl.Cell{Kind: 8}})
}

func TestWrongEdits(t *testing.T) {
	d := &dice{13}
	for _, g := range slices.Concat(roundGrids(t), wholeGrids(), gridsOf(13, 1, ".#/\\xz:159")) {
		s := mustScene(t, g)
		right := rolledEdits(d, g, 19)
		for _, e := range wrongEdits(g) {
			holdNotDone(t, s, []impl.Edit{e})
			holdNotDone(t, s, []impl.Edit{right[0], e})
			holdNotDone(t, s, []impl.Edit{e, right[0]})
			holdNotDone(t, s, append(slices.Clone(right), e))
			// A right edit of the same place behind it does not mend it.
			holdNotDone(t, s, []impl.Edit{e, {At: e.At, Cell: g.Cells[0]}})
		}
	}
}

func TestWrongEditsOfAPlaceThatNobodySees(t *testing.T) {
	s := mustScene(t, mustRead(t, "###\n#.#\n###\n"))
	for _, c := range wrongCells() {
		holdNotDone(t, s, []impl.Edit{{At: 4, Cell: c}})
		holdNotDone(t, s, []impl.Edit{edit(4, "."), {At: 4, Cell: c}})
	}
}

func TestTouchOfNoSuchPlace(t *testing.T) {
	for _, g := range sceneGrids(t) {
		s := mustScene(t, g)
		for _, at := range wrongPlaces(g) {
			if touch := impl.SceneTouch(s, at); len(touch) != 0 {
				t.Fatalf("%v: %v see %d", g, touch, at)
			}
		}
	}
}

func TestScenesOfWrongGrids(t *testing.T) {
	lights, feet := make([]int, 20), slices.Repeat([][]int{{0}}, 20)
	for why, g := range wrongGrids() {
		if s, ok := impl.SceneNew(g); ok || !isNoScene(s) {
			t.Errorf("%s: %v, %v", why, s, ok)
		}
		for many := range 21 {
			holdNoScene(t, why, impl.Scene{Grid: g, Lights: lights[:many], Feet: feet[:many]})
		}
	}
}

// holdNoScene fails unless a scene is not ok, whatever is asked of it.
func holdNoScene(t *testing.T, why string, s impl.Scene) {
	t.Helper()
	if impl.SceneOk(s) {
		t.Fatalf("%s: ok: %v", why, s)
	}
	for _, at := range []int{-1, 0, len(s.Grid.Cells) - 1, len(s.Grid.Cells)} {
		if touch := impl.SceneTouch(s, at); len(touch) != 0 {
			t.Fatalf("%s: %v see %d", why, touch, at)
		}
		holdNotDone(t, s, []impl.Edit{edit(at, "5")})
	}
	holdNotDone(t, s, nil)
	// What is put does not mend it.
	if len(s.Grid.Cells) > 0 {
		holdNotDone(t, s, []impl.Edit{{At: 0, Cell: s.Grid.Cells[0]}, edit(0, ".")})
	}
}
