package tests

import (
	"slices"
	"testing"

	"loop.example/lucarne/impl"
)

func TestPicsAreNewMemory(t *testing.T) {
	for _, g := range withWrongGrids(picGrids(t)) {
		holdNew(t, g, -9, impl.PicOf)
	}
}

// spoilRows writes another number over each row, spare room included, and fails if that is seen in another row.
func spoilRows(t *testing.T, g impl.Grid, rows [][]int) {
	t.Helper()
	want := copyRows(rows)
	for k, row := range rows {
		spoilAll(row, -9-k)
		for other := range rows {
			ahead := want[other]
			if other <= k {
				ahead = slices.Repeat([]int{-9 - other}, len(want[other]))
			}
			if !slices.Equal(rows[other], ahead) {
				t.Fatalf("%v: the rows %d and %d share memory", g, k, other)
			}
		}
	}
	// A row's spare room must be its own, too, and not be another row's.
	for k, row := range rows {
		for _, n := range row[:cap(row)] {
			if n != -9-k {
				t.Fatalf("%v: the spare room of the row %d is shared", g, k)
			}
		}
	}
}

func TestPicToIsNewMemory(t *testing.T) {
	for _, g := range withWrongGrids(picGrids(t)) {
		around, inner := lent(g)
		ahead := slices.Clone(around)
		first, second := impl.PicTo(inner), impl.PicTo(inner)
		want := copyRows(first)
		if !sameRows(second, want) {
			t.Fatalf("%v: %v is told, then %v", g, first, second)
		}
		spoilRows(t, g, first)
		spoilAll(first, nil)
		if !slices.Equal(around, ahead) {
			t.Fatalf("%v is written into, or shares an answer", g)
		}
		if !sameRows(second, want) || !sameRows(impl.PicTo(inner), want) {
			t.Fatalf("%v: two answers share memory", g)
		}
		spoilAll(around, impl.Cell{Kind: -8, Light: -8})
		if !sameRows(second, want) {
			t.Fatalf("%v: the answer changes with the argument", g)
		}
	}
}

func TestPicsWriteNothing(t *testing.T) {
	for _, g := range withWrongGrids(picGrids(t)) {
		around, inner := lent(g)
		ahead := slices.Clone(around)
		many := impl.SightMany(g)
		for _, few := range []int{0, 1, max(many-1, 0), many, many + 1} {
			numbers := countUp(few + 20)
			impl.PicText(inner, numbers[10:10+few])
			if !slices.Equal(numbers, countUp(few+20)) {
				t.Fatalf("%v: PicText writes into its numbers, or around them: %v", g, numbers)
			}
		}
		impl.PicOf(inner)
		impl.PicTo(inner)
		if !slices.Equal(around, ahead) {
			t.Fatalf("%v is written into, or around it", g)
		}
	}
}
