package tests

import (
	"slices"
	"testing"

	"loop.example/lucarne/impl"
)

// lentOf is a list that lies amid a longer one, with spare room behind it.
func lentOf[T any](list []T, fill T) (whole, inner []T) {
	whole = slices.Concat(slices.Repeat([]T{fill}, around), list, slices.Repeat([]T{fill}, around))
	return whole, whole[around : around+len(list)]
}

// lentList is a longer list amid which one of an argument lies.
type lentList interface {
	copied() lentList
	same(other lentList) bool
	spoil()
}

// listOf is a longer list of values of one type.
type listOf[T any] struct {
	whole []T
	over  T                 // what is written over it
	clone func(T) T         // a value that shares nothing with this one
	equal func(a, b T) bool // whether two values are the same
}

func (l listOf[T]) copied() lentList {
	whole := make([]T, 0, len(l.whole))
	for _, v := range l.whole {
		whole = append(whole, l.clone(v))
	}
	return listOf[T]{whole, l.over, l.clone, l.equal}
}

func (l listOf[T]) same(other lentList) bool {
	o, ok := other.(listOf[T])
	return ok && slices.EqualFunc(l.whole, o.whole, l.equal)
}

func (l listOf[T]) spoil() {
	spoilAll(l.whole, l.over)
}

// loan is the longer lists amid which all lists of an argument lie.
type loan []lentList

// copied is the same longer lists, sharing nothing with these.
func (l loan) copied() loan {
	var all loan
	for _, list := range l {
		all = append(all, list.copied())
	}
	return all
}

func (l loan) same(other loan) bool {
	return slices.EqualFunc(l, other, lentList.same)
}

// spoil writes over all of the lists.
func (l loan) spoil() {
	for _, list := range l {
		list.spoil()
	}
}

// lendPlain is a list of values without lists in them that lies amid a longer one, of the loan.
func lendPlain[T comparable](to *loan, list []T, fill, over T) []T {
	whole, inner := lentOf(list, fill)
	*to = append(*to, listOf[T]{whole, over, func(v T) T { return v }, func(a, b T) bool { return a == b }})
	return inner
}

func lendInts(to *loan, list []int) []int {
	return lendPlain(to, list, -7, -8)
}

func lendEdits(to *loan, list []impl.Edit) []impl.Edit {
	return lendPlain(to, list, impl.Edit{At: -7, Cell: impl.Cell{Kind: -7, Light: -7}}, impl.Edit{At: -8})
}

func lendGrid(to *loan, g impl.Grid) impl.Grid {
	return impl.Grid{Wide: g.Wide, Cells: lendPlain(to, g.Cells, impl.Cell{Kind: -7, Light: -7}, impl.Cell{Kind: -8, Light: -8})}
}

// lendRows is rows that lie amid more of them, each amid a longer one.
func lendRows(to *loan, rows [][]int) [][]int {
	var inner [][]int
	for _, row := range rows {
		inner = append(inner, lendInts(to, row))
	}
	whole, inner := lentOf(inner, []int{-7})
	*to = append(*to, listOf[[]int]{whole, []int{-8}, slices.Clone[[]int], slices.Equal[[]int]})
	return inner
}

// toldLike is all that is answered at once.
type toldLike[A any] interface {
	copied() A
	same(other A) bool
	spoil(t *testing.T, g impl.Grid)
}

// holdNewAnswer fails unless what is asked of an argument is answered anew each time, and shares nothing with it or with another answer.
func holdNewAnswer[T any, A toldLike[A]](t *testing.T, name string, g impl.Grid, of T, lend func(*loan, T) T, ask func(T) A) {
	t.Helper()
	var whole loan
	inner := lend(&whole, of)
	ahead := whole.copied()
	first, second := ask(inner), ask(inner)
	if !whole.same(ahead) {
		t.Fatalf("%s writes into %v, or around it", name, of)
	}
	want := first.copied()
	if !second.same(want) {
		t.Fatalf("%s of %v is %v, then %v", name, of, first, second)
	}
	first.spoil(t, g)
	if !whole.same(ahead) {
		t.Fatalf("%s shares its answer with %v", name, of)
	}
	if !second.same(want) || !ask(inner).same(want) {
		t.Fatalf("%s of %v: two answers share memory", name, of)
	}
	whole.spoil()
	if !second.same(want) {
		t.Fatalf("%s of %v: the answer changes with the argument", name, of)
	}
}

// holdNotWritten fails if an argument is written into, or around it, while it is asked about.
func holdNotWritten[T any](t *testing.T, why string, of T, lend func(*loan, T) T, ask func(t *testing.T, why string, of T)) {
	t.Helper()
	var whole loan
	inner := lend(&whole, of)
	ahead := whole.copied()
	ask(t, why, inner)
	if !whole.same(ahead) {
		t.Fatalf("%s: %v is written into, or around it", why, of)
	}
}
