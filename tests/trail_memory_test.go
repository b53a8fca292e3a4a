package tests

import (
	"slices"
	"testing"

	"loop.example/lucarne/impl"
)

// withWrongGrids is these grids, and those that are not ok, but for the very long one.
func withWrongGrids(grids []impl.Grid) []impl.Grid {
	for _, g := range wrongGrids() {
		if len(g.Cells) < 100 {
			grids = append(grids, g)
		}
	}
	return grids
}

// spoilAll writes the same over all of a list, spare room included.
func spoilAll[T any](list []T, with T) {
	all := list[:cap(list)]
	for i := range all {
		all[i] = with
	}
}

// holdNew fails unless a list is told anew each time, and shares nothing with the grid's cells or with another answer.
func holdNew[T comparable](t *testing.T, g impl.Grid, with T, tell func(impl.Grid) []T) {
	t.Helper()
	around, inner := lent(g)
	ahead := slices.Clone(around)
	first, second := tell(inner), tell(inner)
	want := slices.Clone(first)
	if !slices.Equal(second, want) {
		t.Fatalf("%v: %v is told, then %v", g, first, second)
	}
	spoilAll(first, with)
	if !slices.Equal(around, ahead) {
		t.Fatalf("%v is written into, or shares an answer", g)
	}
	if !slices.Equal(second, want) || !slices.Equal(tell(inner), want) {
		t.Fatalf("%v: two answers share memory", g)
	}
	spoilAll(around, impl.Cell{Kind: -8, Light: -8})
	if !slices.Equal(second, want) {
		t.Fatalf("%v: the answer changes with the argument", g)
	}
}

func TestTrailsAreNewMemory(t *testing.T) {
	for _, g := range withWrongGrids(trailGrids(t)) {
		for k := -1; k <= 20; k++ {
			holdNew(t, g, impl.Visit{At: -9, Dir: -9, Weight: -9}, func(x impl.Grid) []impl.Visit { return impl.TrailVisits(x, k) })
			holdNew(t, g, impl.End{Kind: -9, Where: -9, Weight: -9}, func(x impl.Grid) []impl.End { return impl.TrailEnds(x, k) })
			holdNew(t, g, -9, func(x impl.Grid) []int { return impl.TrailFoot(x, k) })
		}
	}
}

func TestTrailsWriteNothing(t *testing.T) {
	for _, g := range withWrongGrids(trailGrids(t)) {
		around, inner := lent(g)
		ahead := slices.Clone(around)
		for k := -1; k <= 20; k++ {
			impl.TrailVisits(inner, k)
			impl.TrailEnds(inner, k)
			impl.TrailFoot(inner, k)
			impl.TrailLight(inner, k)
			for to := -1; to <= 20; to++ {
				impl.TrailTo(inner, k, to)
			}
		}
		if !slices.Equal(around, ahead) {
			t.Fatalf("%v is written into, or around it", g)
		}
	}
}
