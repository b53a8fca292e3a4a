package tests

import (
	"slices"
	"testing"

	"loop.example/lucarne/impl"
)

// around is how many cells lie ahead of a lent grid's, and behind them.
const around = 40

// lent is a grid whose cells lie amid a longer list, with spare room behind them.
func lent(g impl.Grid) (whole []impl.Cell, inner impl.Grid) {
	whole = make([]impl.Cell, 2*around+len(g.Cells))
	for i := range whole {
		whole[i] = impl.Cell{Kind: -7, Light: i}
	}
	copy(whole[around:], g.Cells)
	return whole, impl.Grid{Wide: g.Wide, Cells: whole[around : around+len(g.Cells)]}
}

// spoil writes over all cells of a grid, spare room included.
func spoil(g impl.Grid) {
	all := g.Cells[:cap(g.Cells)]
	for i := range all {
		all[i] = impl.Cell{Kind: -9, Light: -9}
	}
}

// makers is all that makes a grid of a grid.
func makers() map[string]func(impl.Grid) impl.Grid {
	made := map[string]func(impl.Grid) impl.Grid{"GridTurn": impl.GridTurn, "GridFlip": impl.GridFlip}
	made["GridPut, first"] = func(g impl.Grid) impl.Grid {
		x, _ := impl.GridPut(g, 0, impl.Cell{Kind: impl.CellWall})
		return x
	}
	made["GridPut, last"] = func(g impl.Grid) impl.Grid {
		x, _ := impl.GridPut(g, len(g.Cells)-1, impl.Cell{Kind: impl.CellLamp, Light: 9})
		return x
	}
	made["GridPut, what is there"] = func(g impl.Grid) impl.Grid {
		if len(g.Cells) == 0 {
			return impl.Grid{}
		}
		x, _ := impl.GridPut(g, 0, g.Cells[0])
		return x
	}
	made["GridPut, past the end"] = func(g impl.Grid) impl.Grid {
		x, _ := impl.GridPut(g, len(g.Cells), impl.Cell{})
		return x
	}
	made["GridRead of GridText"] = func(g impl.Grid) impl.Grid {
		x, _ := impl.GridRead(impl.GridText(g))
		return x
	}
	return made
}

func TestAnswersAreNewMemory(t *testing.T) {
	grids := someGrids()
	for _, g := range wrongGrids() {
		if len(g.Cells) < 100 {
			grids = append(grids, g)
		}
	}
	for name, maker := range makers() {
		for _, g := range grids {
			whole, inner := lent(g)
			ahead := slices.Clone(whole)
			first, second := maker(inner), maker(inner)
			if !slices.Equal(whole, ahead) {
				t.Fatalf("%s writes into %v, or around it", name, g)
			}
			want := copyGrid(first)
			if !sameGrid(second, want) {
				t.Fatalf("%s of %v is %v, then %v", name, g, first, second)
			}
			spoil(first)
			if !slices.Equal(whole, ahead) {
				t.Fatalf("%s shares its answer with %v", name, g)
			}
			if !sameGrid(second, want) || !sameGrid(maker(inner), want) {
				t.Fatalf("%s of %v: two answers share memory", name, g)
			}
			for i := range whole {
				whole[i] = impl.Cell{Kind: -8, Light: -8}
			}
			if !sameGrid(second, want) {
				t.Fatalf("%s of %v: the answer changes with the argument", name, g)
			}
		}
	}
}

func TestAskingWritesNothing(t *testing.T) {
	for _, g := range someGrids() {
		whole, inner := lent(g)
		ahead := slices.Clone(whole)
		impl.GridOk(inner)
		impl.GridText(inner)
		for _, c := range inner.Cells {
			impl.CellOk(c)
		}
		if !slices.Equal(whole, ahead) {
			t.Fatalf("%v is written into", g)
		}
	}
}
