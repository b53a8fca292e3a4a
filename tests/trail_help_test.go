package tests

import (
	"slices"
	"strings"
	"testing"

	"loop.example/lucarne/impl"
)

// mustRead is the grid of a text, which must be one.
func mustRead(t *testing.T, text string) impl.Grid {
	t.Helper()
	g, ok := impl.GridRead(text)
	if !ok {
		t.Fatalf("%q is not read", text)
	}
	return g
}

// cellsOf is the cells of these signs, without the program's help.
func cellsOf(signs string) []impl.Cell {
	var cells []impl.Cell
	for _, s := range signedCells() {
		if strings.IndexByte(signs, s.sign) >= 0 {
			cells = append(cells, s.cell)
		}
	}
	return cells
}

// gridsOf is some grids of each size that have these signs alone.
func gridsOf(seed uint64, each int, signs string) []impl.Grid {
	d := &dice{seed}
	cells := cellsOf(signs)
	var grids []impl.Grid
	for wide := 1; wide <= 5; wide++ {
		for rows := 1; rows <= 5; rows++ {
			for range each {
				g := impl.Grid{Wide: wide}
				for range wide * rows {
					g.Cells = append(g.Cells, cells[d.roll(len(cells))])
				}
				grids = append(grids, g)
			}
		}
	}
	return grids
}

// roundGrids is grids in which light goes round, or comes back.
func roundGrids(t *testing.T) []impl.Grid {
	var grids []impl.Grid
	for _, text := range []string{
		"x\\\n\\/\n", "/z\n\\/\n", "/\\\n\\x\n", "/\\\nz/\n",
		"/x\n\\/\n", "z\\\n\\/\n", "x\\\n\\x\n", "xz\nzx\n",
		"x...\\\n.....\n..#..\n.....\n\\.../\n",
		"/\\..\\\n\\x...\n.....\n.....\n\\.../\n",
		"/...z\n:...:\n.....\n:...:\n\\.../\n",
	} {
		grids = append(grids, mustRead(t, text))
	}
	return grids
}

// wholeGrids is five by five full of each kind of cell, lamps as dark and as bright as can be.
func wholeGrids() []impl.Grid {
	var grids []impl.Grid
	for _, c := range cellsOf(".#/\\xz:19") {
		grids = append(grids, impl.Grid{Wide: 5, Cells: slices.Repeat([]impl.Cell{c}, 25)})
	}
	return grids
}

// trailGrids is grids of each size with all kinds of cells, with those through which light goes far, and those at the edges.
func trailGrids(t *testing.T) []impl.Grid {
	return slices.Concat(lightGrids(), allGrids(1, 1), gridsOf(3, 4, "/\\xz"), gridsOf(4, 4, "./\\xz:"), gridsOf(5, 4, ".#/\\xz:159"), roundGrids(t), wholeGrids())
}

// clearGrids is grids without glass, and what dims.
func clearGrids() []impl.Grid {
	return slices.Concat(freeGrids(), gridsOf(6, 6, ".#/\\19"), gridsOf(7, 6, "./\\"), gridsOf(8, 2, "/\\"))
}

// eachSight tells each sight of each grid, and that there are some.
func eachSight(t *testing.T, grids []impl.Grid, tell func(g impl.Grid, k int)) {
	t.Helper()
	for _, g := range grids {
		many := impl.SightMany(g)
		if many < 4 {
			t.Fatalf("%v has %d sights", g, many)
		}
		for k := range many {
			tell(g, k)
		}
	}
}

// halves says whether a kind of cell lets only half of the light leave each way.
func halves(kind int) bool {
	return kind == 4 || kind == 5 || kind == 6
}

// handTrail is the document's words of trails, followed one call inside the other.
type handTrail struct {
	visits []impl.Visit
	ends   []impl.End
}

// come lets light come into a cell.
func (h *handTrail) come(g impl.Grid, at, dir, weight int) {
	h.visits = append(h.visits, impl.Visit{At: at, Dir: dir, Weight: weight})
	kind := g.Cells[at].Kind
	turned := handTurns()[kind][dir]
	switch kind {
	case 0:
		h.leave(g, at, dir, weight)
	case 1:
		h.end(1, at, weight)
	case 2, 3:
		h.leave(g, at, turned, weight)
	case 4, 5:
		h.end(3, at, weight%2)
		h.leave(g, at, dir, weight/2)
		h.leave(g, at, turned, weight/2)
	case 6:
		h.end(3, at, weight-weight/2)
		h.leave(g, at, dir, weight/2)
	case 7:
		h.end(2, at, weight)
	}
}

// leave lets light leave a cell.
func (h *handTrail) leave(g impl.Grid, at, dir, weight int) {
	if weight == 0 {
		return
	}
	if next, there := handNext(g, at, dir); there {
		h.come(g, next, dir, weight)
		return
	}
	h.end(0, slices.Index(handSights(g), impl.Ray{At: at, Dir: about(dir)}), weight)
}

func (h *handTrail) end(kind, where, weight int) {
	if weight > 0 {
		h.ends = append(h.ends, impl.End{Kind: kind, Where: where, Weight: weight})
	}
}

// handTrailOf is the trail of a sight, without the program's help.
func handTrailOf(g impl.Grid, k int) handTrail {
	var h handTrail
	r := handSights(g)[k]
	h.come(g, r.At, r.Dir, 64)
	return h
}

// foot is the places that are visited, ascending, each once.
func (h handTrail) foot() []int {
	var foot []int
	for at := range 25 {
		if slices.ContainsFunc(h.visits, func(v impl.Visit) bool { return v.At == at }) {
			foot = append(foot, at)
		}
	}
	return foot
}

// to is how much ends at a sight.
func (h handTrail) to(k int) int {
	return sumOf(h.ends, 0, k)
}

// light is how bright it is.
func (h handTrail) light(g impl.Grid) int {
	sum := 0
	for _, e := range h.ends {
		if e.Kind == 2 {
			sum += e.Weight * g.Cells[e.Where].Light
		}
	}
	return sum
}

// sumOf is how much ends that way, and there.
func sumOf(ends []impl.End, kind, where int) int {
	sum := 0
	for _, e := range ends {
		if e.Kind == kind && e.Where == where {
			sum += e.Weight
		}
	}
	return sum
}
