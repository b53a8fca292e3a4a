package tests

import (
	"math"
	"slices"
	"testing"

	"loop.example/lucarne/impl"
)

// wrongWays is ways that there are not; some are ways as a byte, or in a count by four.
func wrongWays() []int {
	return []int{math.MinInt, -256, -5, -4, -3, -2, -1, 4, 5, 6, 7, 8, 256, 257, 1 << 32, math.MaxInt}
}

// wrongKinds is kinds that there are not; some are mirrors as a byte, or in a count by eight.
func wrongKinds() []int {
	return []int{math.MinInt, -254, -6, -5, -3, -2, -1, 8, 9, 10, 11, 12, 13, 258, 259, 1<<32 + 2, math.MaxInt}
}

// wrongPlaces is places that a grid has not; from some a step leads to one that it has.
func wrongPlaces(g impl.Grid) []int {
	many := len(g.Cells)
	return []int{math.MinInt, math.MinInt + 1, -many, -g.Wide, -1, many, many + 1, many + g.Wide - 1, many + g.Wide, math.MaxInt - 1, math.MaxInt}
}

func TestDirNames(t *testing.T) {
	if impl.DirUp != 0 || impl.DirRight != 1 || impl.DirDown != 2 || impl.DirLeft != 3 {
		t.Error("the ways have other numbers")
	}
}

func TestTurnByEachKind(t *testing.T) {
	for kind, turns := range handTurns() {
		for dir, want := range turns {
			if got := impl.DirTurn(kind, dir); got != want {
				t.Errorf("kind %d turns %d to %d, not %d", kind, dir, got, want)
			}
		}
	}
}

func TestTurnByNoKind(t *testing.T) {
	for _, kind := range wrongKinds() {
		for _, dir := range ways() {
			if got := impl.DirTurn(kind, dir); got != dir {
				t.Errorf("kind %d turns %d to %d", kind, dir, got)
			}
		}
	}
}

func TestTurnOfNoWay(t *testing.T) {
	kinds := append(wrongKinds(), 0, 1, 2, 3, 4, 5, 6, 7)
	for _, kind := range kinds {
		for _, dir := range wrongWays() {
			if got := impl.DirTurn(kind, dir); got != -1 {
				t.Errorf("kind %d turns %d to %d", kind, dir, got)
			}
		}
	}
}

func TestNextOfEachPlaceAndWay(t *testing.T) {
	for _, g := range lightGrids() {
		for at := range g.Cells {
			for _, dir := range ways() {
				want := impl.Ray{}
				next, there := handNext(g, at, dir)
				if there {
					want = impl.Ray{At: next, Dir: dir}
				}
				if got, ok := impl.RayNext(g, at, dir); ok != there || got != want {
					t.Fatalf("RayNext(%v, %d, %d) is %v, %v", g, at, dir, got, ok)
				}
			}
		}
	}
}

func TestNextHangsOnNoCell(t *testing.T) {
	for _, c := range okCells() {
		g := impl.Grid{Wide: 3, Cells: slices.Repeat([]impl.Cell{c}, 9)}
		for _, dir := range ways() {
			want := impl.Ray{At: [4]int{1, 5, 7, 3}[dir], Dir: dir}
			if got, ok := impl.RayNext(g, 4, dir); !ok || got != want {
				t.Errorf("amid cells %v, going %d: %v, %v", c, dir, got, ok)
			}
		}
	}
}

func TestNextByHand(t *testing.T) {
	for _, x := range []struct {
		wide, many int
		at, dir    int
		next       impl.Ray
		there      bool
	}{
		{1, 1, 0, 0, impl.Ray{}, false},
		{1, 1, 0, 1, impl.Ray{}, false},
		{1, 1, 0, 2, impl.Ray{}, false},
		{1, 1, 0, 3, impl.Ray{}, false},
		{5, 5, 4, 1, impl.Ray{}, false},
		{5, 5, 0, 3, impl.Ray{}, false},
		{5, 5, 2, 0, impl.Ray{}, false},
		{5, 5, 2, 2, impl.Ray{}, false},
		{5, 5, 3, 1, impl.Ray{At: 4, Dir: 1}, true},
		{5, 5, 1, 3, impl.Ray{At: 0, Dir: 3}, true},
		{1, 5, 0, 0, impl.Ray{}, false},
		{1, 5, 4, 2, impl.Ray{}, false},
		{1, 5, 2, 1, impl.Ray{}, false},
		{1, 5, 2, 3, impl.Ray{}, false},
		{1, 5, 3, 2, impl.Ray{At: 4, Dir: 2}, true},
		{1, 5, 1, 0, impl.Ray{At: 0, Dir: 0}, true},
		{5, 25, 0, 0, impl.Ray{}, false},
		{5, 25, 0, 3, impl.Ray{}, false},
		{5, 25, 4, 0, impl.Ray{}, false},
		{5, 25, 4, 1, impl.Ray{}, false},
		{5, 25, 20, 3, impl.Ray{}, false},
		{5, 25, 20, 2, impl.Ray{}, false},
		{5, 25, 24, 1, impl.Ray{}, false},
		{5, 25, 24, 2, impl.Ray{}, false},
		{5, 25, 9, 1, impl.Ray{}, false},
		{5, 25, 10, 3, impl.Ray{}, false},
		{5, 25, 19, 2, impl.Ray{At: 24, Dir: 2}, true},
		{5, 25, 5, 0, impl.Ray{At: 0, Dir: 0}, true},
	} {
		g := impl.Grid{Wide: x.wide, Cells: freeCells(x.many)}
		if got, ok := impl.RayNext(g, x.at, x.dir); ok != x.there || got != x.next {
			t.Errorf("%d free cells, %d in a row, from %d, going %d: %v, %v", x.many, x.wide, x.at, x.dir, got, ok)
		}
	}
}

func TestNextOfNoPlaceOrWay(t *testing.T) {
	for _, g := range lightGrids() {
		for _, at := range wrongPlaces(g) {
			for _, dir := range append(wrongWays(), ways()...) {
				if got, ok := impl.RayNext(g, at, dir); ok || got != (impl.Ray{}) {
					t.Fatalf("RayNext(%v, %d, %d) is %v, %v", g, at, dir, got, ok)
				}
			}
		}
		for at := range g.Cells {
			for _, dir := range wrongWays() {
				if got, ok := impl.RayNext(g, at, dir); ok || got != (impl.Ray{}) {
					t.Fatalf("RayNext(%v, %d, %d) is %v, %v", g, at, dir, got, ok)
				}
			}
		}
	}
}

func TestNextPastTheEndInSpareRoom(t *testing.T) {
	g := impl.Grid{Wide: 2, Cells: freeCells(6)[:4]}
	for _, at := range []int{4, 5} {
		for _, dir := range ways() {
			if got, ok := impl.RayNext(g, at, dir); ok || got != (impl.Ray{}) {
				t.Errorf("from %d, going %d: %v, %v", at, dir, got, ok)
			}
		}
	}
	if got, ok := impl.RayNext(g, 3, impl.DirDown); ok || got != (impl.Ray{}) {
		t.Errorf("down from the last row: %v, %v", got, ok)
	}
}

func TestNextInWrongGrids(t *testing.T) {
	for why, g := range wrongGrids() {
		for at := -1; at <= min(len(g.Cells), 30); at++ {
			for _, dir := range append(wrongWays(), ways()...) {
				if got, ok := impl.RayNext(g, at, dir); ok || got != (impl.Ray{}) {
					t.Errorf("%s: from %d, going %d: %v, %v", why, at, dir, got, ok)
				}
			}
		}
	}
}

func TestNextWritesNothing(t *testing.T) {
	grids := lightGrids()
	for _, g := range wrongGrids() {
		if len(g.Cells) < 100 {
			grids = append(grids, g)
		}
	}
	for _, g := range grids {
		whole, inner := lent(g)
		ahead := slices.Clone(whole)
		for at := -1; at <= len(g.Cells); at++ {
			for dir := -1; dir <= 4; dir++ {
				impl.RayNext(inner, at, dir)
			}
		}
		if !slices.Equal(whole, ahead) {
			t.Fatalf("%v is written into, or around it", g)
		}
	}
}
