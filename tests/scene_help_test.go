package tests

import (
	"slices"
	"strconv"
	"strings"
	"testing"

	"loop.example/lucarne/impl"
)

// sceneGrids is those at the edges, those in which light goes round, and some of each size with each kind of cell.
func sceneGrids(t *testing.T) []impl.Grid {
	return slices.Concat(allGrids(1, 1), freeGrids(), roundGrids(t), wholeGrids(), gridsOf(47, 1, ".#/\\xz:159"), gridsOf(48, 1, "./\\xz:37"))
}

// eachKind is a cell of each kind, lamps as dark and as bright as can be.
func eachKind() []impl.Cell {
	return cellsOf(".#/\\xz:19")
}

// handScene is the scene of an ok grid, without the program's help.
func handScene(g impl.Grid) impl.Scene {
	s := impl.Scene{Grid: copyGrid(g), Lights: handPic(g)}
	for k := range handSights(g) {
		s.Feet = append(s.Feet, handTrailOf(g, k).foot())
	}
	return s
}

// handTouch is the sights of an ok grid that see a place, without the program's help.
func handTouch(g impl.Grid, at int) []int {
	var sights []int
	for k, foot := range handScene(g).Feet {
		if slices.Contains(foot, at) {
			sights = append(sights, k)
		}
	}
	return sights
}

// handTouches is the sights of an ok grid that see one of the places of these edits, ascending, each once.
func handTouches(g impl.Grid, list []impl.Edit) []int {
	var sights []int
	for k, foot := range handScene(g).Feet {
		if slices.ContainsFunc(list, func(e impl.Edit) bool { return slices.Contains(foot, e.At) }) {
			sights = append(sights, k)
		}
	}
	return sights
}

// handPut is a grid behind these edits, without the program's help.
func handPut(g impl.Grid, list ...impl.Edit) impl.Grid {
	x := copyGrid(g)
	for _, e := range list {
		x.Cells[e.At] = e.Cell
	}
	return x
}

// edit is the edit that puts the cell of a sign to a place.
func edit(at int, sign string) impl.Edit {
	return impl.Edit{At: at, Cell: cellsOf(sign)[0]}
}

// rolledEdits is so many edits that can be done; places come again.
func rolledEdits(d *dice, g impl.Grid, many int) []impl.Edit {
	cells := eachKind()
	var list []impl.Edit
	for range many {
		list = append(list, impl.Edit{At: d.roll(len(g.Cells)), Cell: cells[d.roll(len(cells))]})
	}
	return list
}

func sameScene(a, b impl.Scene) bool {
	return sameGrid(a.Grid, b.Grid) && slices.Equal(a.Lights, b.Lights) && sameRows(a.Feet, b.Feet)
}

func isNoScene(s impl.Scene) bool {
	return isNoGrid(s.Grid) && len(s.Lights) == 0 && len(s.Feet) == 0
}

// copyScene is a scene that shares nothing with this one.
func copyScene(s impl.Scene) impl.Scene {
	return impl.Scene{Grid: copyGrid(s.Grid), Lights: slices.Clone(s.Lights), Feet: copyRows(s.Feet)}
}

// sceneText is, of each sight, how bright it is, and the places that it sees: 64:0,1 0:2.
func sceneText(s impl.Scene) string {
	var words []string
	for k, foot := range s.Feet {
		var places []string
		for _, at := range foot {
			places = append(places, strconv.Itoa(at))
		}
		words = append(words, strconv.Itoa(s.Lights[k])+":"+strings.Join(places, ","))
	}
	return strings.Join(words, " ")
}

// mustScene is the scene of a grid, which must be ok, with a light and a foot of each sight.
func mustScene(t *testing.T, g impl.Grid) impl.Scene {
	t.Helper()
	s, ok := impl.SceneNew(g)
	many := 2 * (g.Wide + rowsOf(g))
	if !ok || len(s.Lights) != many || len(s.Feet) != many {
		t.Fatalf("SceneNew(%v) is %v, %v", g, s, ok)
	}
	return s
}

// mustEdit is a scene behind an edit, which must be done, and the sights that were looked at.
func mustEdit(t *testing.T, s impl.Scene, e impl.Edit) (impl.Scene, []int) {
	t.Helper()
	x, anew, ok := impl.SceneEdit(s, e)
	if !ok {
		t.Fatalf("%v: SceneEdit with %v is false", s.Grid, e)
	}
	return x, anew
}

// mustMany is a scene behind edits, which must be done, and the sights that were looked at.
func mustMany(t *testing.T, s impl.Scene, list ...impl.Edit) (impl.Scene, []int) {
	t.Helper()
	x, anew, ok := impl.SceneMany(s, list)
	if !ok {
		t.Fatalf("%v: SceneMany with %v is false", s.Grid, list)
	}
	return x, anew
}

// mustAllOf is a scene behind SceneEdit of each, one behind the other.
func mustAllOf(t *testing.T, s impl.Scene, list []impl.Edit) impl.Scene {
	t.Helper()
	for _, e := range list {
		s, _ = mustEdit(t, s, e)
	}
	return s
}

// eachEdit tells each scene with each edit of it, a cell of each kind at each place.
func eachEdit(t *testing.T, grids []impl.Grid, tell func(s impl.Scene, e impl.Edit)) {
	t.Helper()
	for _, g := range grids {
		s := mustScene(t, g)
		for at := range g.Cells {
			for _, c := range eachKind() {
				tell(s, impl.Edit{At: at, Cell: c})
			}
		}
	}
}
