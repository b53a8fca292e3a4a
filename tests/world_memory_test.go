package tests

import (
	"slices"
	"testing"

	"loop.example/lucarne/impl"
)

// lendWorld is a world all of whose lists lie amid longer ones.
func lendWorld(to *loan, w impl.World) impl.World {
	x := impl.World{Keeper: lendKeeper(to, w.Keeper)}
	for _, p := range w.Painters {
		x.Painters = append(x.Painters, lendPainter(to, p))
	}
	for _, word := range w.Nets {
		x.Nets = append(x.Nets, lendWord(to, word))
	}
	wholePainters, painters := lentOf(x.Painters, impl.Painter{Up: true, Ver: -7})
	*to = append(*to, listOf[impl.Painter]{wholePainters, impl.Painter{Ver: -8}, copyPainter, samePainter})
	wholeNets, nets := lentOf(x.Nets, impl.Word{Kind: -7, Lights: []int{-7}})
	*to = append(*to, listOf[impl.Word]{wholeNets, impl.Word{Kind: -8}, copyWord, sameWord})
	x.Painters, x.Nets = painters, nets
	return x
}

// worldAnswer is what is answered of a world.
type worldAnswer struct {
	world impl.World
	ok    bool
}

func (a worldAnswer) copied() worldAnswer {
	return worldAnswer{copyWorld(a.world), a.ok}
}

func (a worldAnswer) same(other worldAnswer) bool {
	return a.ok == other.ok && sameWorld(a.world, other.world)
}

// spoilApart writes another value over each list, spare room included, and fails if that is seen in another list.
func spoilApart[T any](t *testing.T, name string, lists [][]T, value func(n int) T, same func(a, b T) bool) {
	t.Helper()
	for n, list := range lists {
		spoilAll(list, value(n))
	}
	for n, list := range lists {
		for _, v := range list[:cap(list)] {
			if !same(v, value(n)) {
				t.Fatalf("two lists of %s share memory", name)
			}
		}
	}
}

// spoil writes over all lists of an answer, spare room included, and fails if two of them share any.
func (a worldAnswer) spoil(t *testing.T, _ impl.Grid) {
	t.Helper()
	k := a.world.Keeper
	cells, rows := [][]impl.Cell{k.First.Cells}, [][]int{}
	var feet [][][]int
	for _, p := range k.Parts {
		rows = append(rows, p.Lights)
	}
	for _, s := range k.Shown {
		rows = append(rows, s.Pic)
	}
	for _, p := range a.world.Painters {
		cells, rows, feet = append(cells, p.Scene.Grid.Cells), append(rows, p.Scene.Lights), append(feet, p.Scene.Feet)
		rows = append(rows, p.Scene.Feet...)
	}
	for _, word := range a.world.Nets {
		cells, rows = append(cells, word.Grid.Cells), append(rows, word.Lights)
	}
	spoilApart(t, "numbers", rows, func(n int) int { return -9 - n }, func(a, b int) bool { return a == b })
	spoilApart(t, "cells", cells, func(n int) impl.Cell { return impl.Cell{Kind: -9 - n} }, func(a, b impl.Cell) bool { return a == b })
	spoilApart(t, "feet", feet, func(n int) []int { return []int{-9 - n} }, slices.Equal[[]int])
	spoilAll(k.Parts, impl.Part{Ver: -9, Lights: []int{-9}})
	spoilAll(k.Shown, impl.Shown{Ver: -9, Pic: []int{-9}})
	spoilAll(k.Edits, impl.Edit{At: -9})
	spoilAll(a.world.Painters, impl.Painter{Ver: -9})
	spoilAll(a.world.Nets, impl.Word{Kind: -9})
}

// doAsk is what is answered of an event in a world.
func doAsk(e impl.Event) func(impl.World) worldAnswer {
	return func(w impl.World) worldAnswer { return worldAnswer{world: impl.WorldDo(w, e)} }
}

// worldAsks is all that is asked of a world, but for events.
func worldAsks() map[string]func(impl.World) worldAnswer {
	asks := map[string]func(impl.World) worldAnswer{
		"WorldOk": func(w impl.World) worldAnswer { return worldAnswer{ok: impl.WorldOk(w)} },
	}
	for name, many := range map[string]int{"WorldNew": 3, "WorldNew, alone": 1, "WorldNew, none": 0, "WorldNew, too many": 4} {
		asks[name] = func(w impl.World) worldAnswer {
			x, ok := impl.WorldNew(w.Keeper.First, many)
			return worldAnswer{x, ok}
		}
	}
	for name, rounds := range map[string]int{"WorldCalm, 0": 0, "WorldCalm, 1": 1, "WorldCalm, 2": 2, "WorldCalm, 4": 4, "WorldCalm, -1": -1, "WorldCalm, 21": 21} {
		asks[name] = func(w impl.World) worldAnswer { return worldAnswer{world: impl.WorldCalm(w, rounds)} }
	}
	return asks
}

// memoryWorlds is worlds with words of each kind, none, one less than may be, and as many as may be, of painters that have something, nothing, and are down.
func memoryWorlds(t *testing.T, d *dice, g impl.Grid) []impl.World {
	t.Helper()
	edits := rolledEdits(d, g, 2)
	ten := nineWords + " p1:0"
	return []impl.World{
		mustReadWorld(t, g, nil, "- |  | + | "),
		mustReadWorld(t, g, nil, "0 0 - | 0 | 0 - + | w1:0 p2:0 w2:0 ?3"),
		mustReadWorld(t, g, edits, "1 - | 0 | 1 + | "+nineWords),
		mustReadWorld(t, g, edits, "2 0 | 0 1 | 2 0 | "+ten),
		mustReadWorld(t, g, edits, "2 2 - | 1 | 2 2 2 | p3:2 p3:2 w1:2 w2:2 w1:2"),
	}
}

func TestWorldsAreNewMemory(t *testing.T) {
	d := &dice{104}
	shows := 0
	for _, g := range slices.Concat(allGrids(1, 1)[6:8], roundGrids(t)[:3], gridsOf(104, 1, ".#/\\xz:159")[8:13]) {
		for _, w := range memoryWorlds(t, d, g) {
			for _, e := range eachEvent(d, w) {
				if len(impl.WorldDo(w, e).Keeper.Shown) > len(w.Keeper.Shown) {
					shows++
				}
				holdNewAnswer(t, "WorldDo of "+short(e), g, w, lendWorld, doAsk(e))
			}
			for name, ask := range worldAsks() {
				holdNewAnswer(t, name, g, w, lendWorld, ask)
			}
		}
	}
	if shows == 0 {
		t.Fatal("no event lets a world show something")
	}
}

// playing is a grid, and what is played.
type playing struct {
	grid   impl.Grid
	many   int
	events []impl.Event
}

func lendPlaying(to *loan, p playing) playing {
	events := lendPlain(to, p.events, impl.Event{Kind: 7, A: 1}, impl.Event{Kind: -8})
	return playing{lendGrid(to, p.grid), p.many, events}
}

func playAsk(p playing) worldAnswer {
	w, ok := impl.WorldPlay(p.grid, p.many, p.events)
	return worldAnswer{w, ok}
}

func TestPlaysAreNewMemory(t *testing.T) {
	d := &dice{105}
	for i, g := range worldGrids(t) {
		for many := range paintMost + 2 {
			events, _ := rolledPlay(d, g, 3, playMost+1, plays()[(i+many)%len(plays())])
			for _, steps := range []int{0, 1, 10, playMost, playMost + 1} {
				holdNewAnswer(t, "WorldPlay", g, playing{g, many, events[:steps]}, lendPlaying, playAsk)
			}
		}
	}
	for why, g := range wrongGrids() {
		if len(g.Cells) < 100 {
			holdNewAnswer(t, "WorldPlay, "+why, g, playing{g, 2, []impl.Event{tells(1), brings(0)}}, lendPlaying, playAsk)
		}
	}
}

func TestADoubledWordIsItsOwn(t *testing.T) {
	g := lampGrid(t)
	for at, word := range []string{"w1:2", "e1:1", "p1:1", "?1"} {
		w := mustReadWorld(t, g, lampEdits()[:2], "- - |  | 1 + | w1:2 e1:1 p1:1 ?1")
		x := mustHappen(t, w, doubles(at), doubles(at))
		want := readWorld(t, g, lampEdits()[:2], "- - |  | 1 + | w1:2 e1:1 p1:1 ?1 "+word+" "+word)
		if !sameWorld(x, want) {
			t.Fatalf("behind EvTwice it is %s", worldText(x))
		}
		for _, n := range []int{at, 4, 5} {
			spoil(x.Nets[n].Grid)
			spoilAll(x.Nets[n].Lights, -9)
			for _, other := range []int{at, 4, 5} {
				if other > n && !sameWord(x.Nets[other], want.Nets[other]) {
					t.Fatalf("the word %d changes with %d", other, n)
				}
			}
		}
	}
}

func TestTheSameWholeToEachIsItsOwn(t *testing.T) {
	// The newest grid goes to each painter, each time, and to their scenes: all are their own.
	g := lampGrid(t)
	w := mustPlay(t, g, 3, []impl.Event{editEvent(edit(3, "9")), tells(1), tells(2), tells(3), tells(1), brings(0), brings(0), tells(1), tells(2), paints(1), paints(1)})
	holdWorld(t, "wholes", w, g, []impl.Edit{edit(3, "9")}, "- - - |  | 1 1 + | w3:1 w1:1 w1:1 w2:1 p1:1 p1:1")
	worldAnswer{world: w}.spoil(t, g)
}

func TestWrongWorldsAreNotWritten(t *testing.T) {
	for why, change := range wrongPainterChanges() {
		w := rightWorld(t)
		w.Painters[1] = handPainter(3, handGridOf(w.Keeper, 3))
		change(w, &w.Painters[1])
		holdNotWritten(t, why, w, lendWorld, holdNoWorld)
	}
	for why, change := range wrongShown() {
		w := rightWorld(t)
		change(&w.Keeper, 1)
		holdNotWritten(t, why, w, lendWorld, holdNoWorld)
	}
	for kind, word := range map[int]string{1: "w1:1", 2: "e2:3", 3: "p2:3", 4: "?1"} {
		for why, change := range wrongOfKind()[kind] {
			w := mustReadWorld(t, lampGrid(t), lampEdits(), "0 - | 0 | 0 4 | w2:4 "+word+" ?1")
			change(&w.Nets[1])
			holdNotWritten(t, why, w, lendWorld, holdNoWorld)
		}
	}
}

func TestWorldsOfSpareRoom(t *testing.T) {
	// What lies behind the end of a list is none of it.
	g := lampGrid(t)
	whole := mustReadWorld(t, g, lampEdits()[:2], "1 - |  | 1 + | "+nineWords+" w1:2")
	w := whole
	w.Nets = whole.Nets[:3]
	if !impl.WorldOk(w) {
		t.Fatalf("not ok: %s", worldText(w))
	}
	for _, e := range []impl.Event{brings(3), loses(3), doubles(3)} {
		holdWorldStays(t, "in spare room", w, e)
	}
	ahead := copyWorld(whole)
	for _, e := range []impl.Event{tells(1), paints(2), doubles(0), brings(1), loses(0)} {
		mustHappen(t, w, e)
		if !sameWorld(whole, ahead) {
			t.Fatalf("behind %v what lay in spare room is %s", e, worldText(whole))
		}
	}
	// Painters behind the end are none.
	three := mustReadWorld(t, g, nil, "- - - |  | + + + | ")
	three.Painters = three.Painters[:2]
	holdNoWorld(t, "a painter in spare room", three)
	three.Keeper.Parts = three.Keeper.Parts[:2]
	holdWorldStays(t, "a painter in spare room", three, falls(3))
	holdWorldStays(t, "a painter in spare room", three, tells(3))
	holdWorldStays(t, "a painter in spare room", three, paints(3))
}

func TestWorldsAreTheSameEveryTime(t *testing.T) {
	d := &dice{106}
	for i, g := range roundGrids(t) {
		many := 1 + i%paintMost
		events, worlds := rolledPlay(d, g, many, playMost, plays()[0])
		last := worlds[playMost]
		calm := handRound(handRound(last))
		for range 10 {
			if w := mustPlay(t, g, many, events); !sameWorld(w, last) {
				t.Fatalf("%v: WorldPlay is %s, not %s", g, worldText(w), worldText(last))
			}
			if w := mustCalm(t, last, 2); !sameWorld(w, calm) {
				t.Fatalf("%s: WorldCalm is %s, not %s", worldText(last), worldText(w), worldText(calm))
			}
		}
	}
}
