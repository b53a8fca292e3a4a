package tests

import (
	"slices"
	"testing"

	"loop.example/lucarne/impl"
)

// lentOf is a list that lies amid a longer one, with spare room behind it.
func lentOf[T any](list []T, fill T) (whole, inner []T) {
	whole = slices.Concat(slices.Repeat([]T{fill}, around), list, slices.Repeat([]T{fill}, around))
	return whole, whole[around : around+len(list)]
}

// lentLike is the longer lists amid which all lists of an argument lie.
type lentLike[L any] interface {
	copied() L
	same(other L) bool
	spoil()
}

// toldLike is all that is answered at once.
type toldLike[A any] interface {
	copied() A
	same(other A) bool
	spoil(t *testing.T, g impl.Grid)
}

// holdNewAnswer fails unless what is asked of an argument is answered anew each time, and shares nothing with it or with another answer.
func holdNewAnswer[T any, L lentLike[L], A toldLike[A]](t *testing.T, name string, g impl.Grid, of T, lend func(T) (L, T), ask func(T) A) {
	t.Helper()
	whole, inner := lend(of)
	ahead := whole.copied()
	first, second := ask(inner), ask(inner)
	if !whole.same(ahead) {
		t.Fatalf("%s writes into %v, or around it", name, of)
	}
	want := first.copied()
	if !second.same(want) {
		t.Fatalf("%s of %v is %v, then %v", name, of, first, second)
	}
	first.spoil(t, g)
	if !whole.same(ahead) {
		t.Fatalf("%s shares its answer with %v", name, of)
	}
	if !second.same(want) || !ask(inner).same(want) {
		t.Fatalf("%s of %v: two answers share memory", name, of)
	}
	whole.spoil()
	if !second.same(want) {
		t.Fatalf("%s of %v: the answer changes with the argument", name, of)
	}
}
