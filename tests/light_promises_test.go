package tests

import (
	"testing"

	"loop.example/lucarne/impl"
)

// ways is all ways that light can go, clockwise.
func ways() []int {
	return []int{impl.DirUp, impl.DirRight, impl.DirDown, impl.DirLeft}
}

// about is the other way about.
func about(dir int) int {
	return [4]int{impl.DirDown, impl.DirLeft, impl.DirUp, impl.DirRight}[dir]
}

// sides is the two ways to the side of one.
func sides(dir int) [2]int {
	if dir == impl.DirUp || dir == impl.DirDown {
		return [2]int{impl.DirRight, impl.DirLeft}
	}
	return [2]int{impl.DirUp, impl.DirDown}
}

// handTurns is the document's words of DirTurn, written out: of each kind where up, right, down and left go.
func handTurns() [8][4]int {
	const up, right, down, left = 0, 1, 2, 3
	return [8][4]int{
		{up, right, down, left},
		{up, right, down, left},
		{right, up, left, down},
		{left, down, right, up},
		{right, up, left, down},
		{left, down, right, up},
		{up, right, down, left},
		{up, right, down, left},
	}
}

// handNext is the place of the next cell, without the program's help.
func handNext(g impl.Grid, at, dir int) (int, bool) {
	row, column := at/g.Wide, at%g.Wide
	switch dir {
	case 0:
		return at - g.Wide, row > 0
	case 1:
		return at + 1, column < g.Wide-1
	case 2:
		return at + g.Wide, row < rowsOf(g)-1
	}
	return at - 1, column > 0
}

// freeGrids is a grid of free cells of each size.
func freeGrids() []impl.Grid {
	var grids []impl.Grid
	for wide := 1; wide <= 5; wide++ {
		for rows := 1; rows <= 5; rows++ {
			grids = append(grids, impl.Grid{Wide: wide, Cells: freeCells(wide * rows)})
		}
	}
	return grids
}

// lightGrids is grids of each size, free ones and some with all kinds of cells.
func lightGrids() []impl.Grid {
	grids := freeGrids()
	d := &dice{2}
	for _, g := range freeGrids() {
		for range 4 {
			grids = append(grids, rolledGrid(d, g.Wide, rowsOf(g)))
		}
	}
	return grids
}

// mustNext is the place of the next cell, which must be there.
func mustNext(t *testing.T, g impl.Grid, at, dir int) int {
	t.Helper()
	r, ok := impl.RayNext(g, at, dir)
	if !ok || r.Dir != dir {
		t.Fatalf("RayNext(%v, %d, %d) is %v, %v", g, at, dir, r, ok)
	}
	return r.At
}

func hasNext(g impl.Grid, at, dir int) bool {
	_, ok := impl.RayNext(g, at, dir)
	return ok
}

func TestPromise12BackAndTwice(t *testing.T) {
	for kind := range 8 {
		for _, dir := range ways() {
			turned := impl.DirTurn(kind, dir)
			if turned < 0 || turned > 3 {
				t.Fatalf("kind %d turns %d to %d", kind, dir, turned)
			}
			if back := impl.DirTurn(kind, about(turned)); back != about(dir) {
				t.Errorf("kind %d turns %d to %d, and what goes back to %d", kind, dir, turned, back)
			}
			if twice := impl.DirTurn(kind, turned); twice != dir {
				t.Errorf("kind %d turns %d, twice, to %d", kind, dir, twice)
			}
		}
	}
}

func TestPromise13MirrorsTurnToTheSide(t *testing.T) {
	for _, c := range okCells() {
		for _, dir := range ways() {
			turned := impl.DirTurn(c.Kind, dir)
			switch c.Kind {
			case impl.CellSlash, impl.CellBack, impl.CellGlass, impl.CellPane:
				if side := sides(dir); turned != side[0] && turned != side[1] {
					t.Errorf("kind %d turns %d to %d", c.Kind, dir, turned)
				}
			default:
				if turned != dir {
					t.Errorf("kind %d turns %d to %d", c.Kind, dir, turned)
				}
			}
		}
	}
}

func TestPromise14NextAndBack(t *testing.T) {
	for _, g := range lightGrids() {
		nexts := 0
		for at := range g.Cells {
			for _, dir := range ways() {
				r, ok := impl.RayNext(g, at, dir)
				if !ok {
					continue
				}
				nexts++
				on := [4]int{-g.Wide, 1, g.Wide, -1}[dir]
				if r.At != at+on || r.Dir != dir || r.At < 0 || r.At >= len(g.Cells) {
					t.Fatalf("%v: from %d, going %d: %v", g, at, dir, r)
				}
				if back, ok := impl.RayNext(g, r.At, about(dir)); !ok || back != (impl.Ray{At: at, Dir: about(dir)}) {
					t.Fatalf("%v: from %d, going %d, and back: %v, %v", g, at, dir, back, ok)
				}
			}
		}
		// Between each two cells side by side one can go either way.
		if want := 2 * ((g.Wide-1)*rowsOf(g) + g.Wide*(rowsOf(g)-1)); nexts != want {
			t.Fatalf("%v: %d next cells, not %d", g, nexts, want)
		}
	}
}

func TestPromise15RoundFourCells(t *testing.T) {
	for _, g := range lightGrids() {
		rounds := 0
		for at := range g.Cells {
			for _, dir := range ways() {
				if !hasNext(g, at, dir) {
					continue
				}
				next := mustNext(t, g, at, dir)
				for _, side := range sides(dir) {
					if hasNext(g, next, side) != hasNext(g, at, side) {
						t.Fatalf("%v: to the side, %d, just one of the cells %d and %d has a next one", g, side, at, next)
					}
					if !hasNext(g, next, side) {
						continue
					}
					rounds++
					beside := mustNext(t, g, mustNext(t, g, next, side), about(dir))
					if end := mustNext(t, g, beside, about(side)); end != at {
						t.Fatalf("%v: from %d, going %d and %d, and back so, one is at %d", g, at, dir, side, end)
					}
				}
			}
		}
		// From each corner of each four cells one can go round by either side.
		if want := 8 * (g.Wide - 1) * (rowsOf(g) - 1); rounds != want {
			t.Fatalf("%v: %d rounds, not %d", g, rounds, want)
		}
	}
}

func TestPromise16EdgesOnceEach(t *testing.T) {
	for _, g := range lightGrids() {
		var columns, rows [4][5]int
		for at := range g.Cells {
			for _, dir := range ways() {
				if !hasNext(g, at, dir) {
					columns[dir][at%g.Wide]++
					rows[dir][at/g.Wide]++
				}
			}
		}
		for _, dir := range []int{impl.DirUp, impl.DirDown} {
			for column := range g.Wide {
				if columns[dir][column] != 1 {
					t.Fatalf("%v: going %d, the column %d has %d ends", g, dir, column, columns[dir][column])
				}
			}
		}
		for _, dir := range []int{impl.DirLeft, impl.DirRight} {
			for row := range rowsOf(g) {
				if rows[dir][row] != 1 {
					t.Fatalf("%v: going %d, the row %d has %d ends", g, dir, row, rows[dir][row])
				}
			}
		}
	}
}
