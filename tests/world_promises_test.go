package tests

import (
	"math"
	"slices"
	"testing"

	"loop.example/lucarne/impl"
)

// sixRounds is how many calm rounds the promises speak of.
const sixRounds = 6

func TestPromise82WorldNew(t *testing.T) {
	for _, g := range slices.Concat(worldGrids(t), wholeGrids(), freeGrids(), allGrids(1, 1), allGrids(2, 1)) {
		for many := 1; many <= paintMost; many++ {
			w := mustWorld(t, g, many)
			k, ok := impl.KeepNew(g, many)
			if !ok || !sameKeeper(w.Keeper, k) || len(w.Painters) != many || len(w.Nets) != 0 {
				t.Fatalf("WorldNew(%v, %d) is %v", g, many, w)
			}
			for _, p := range w.Painters {
				if !samePainter(p, impl.Painter{Up: true}) {
					t.Fatalf("WorldNew(%v, %d) has %v", g, many, p)
				}
			}
			if !sameWorld(w, handNew(g, many)) {
				t.Fatalf("WorldNew(%v, %d) is %v", g, many, w)
			}
		}
	}
}

// eachEvent is events of each kind in a world: of each painter, and each word, and of such as there are not.
func eachEvent(d *dice, w impl.World) []impl.Event {
	var events []impl.Event
	for _, e := range rolledEdits(d, w.Keeper.First, 2) {
		events = append(events, editEvent(e))
	}
	events = append(events, editEvent(edit(len(w.Keeper.First.Cells), ".")))
	for _, kind := range []int{-1, 0, 2, 3, 7, 8, 9} {
		for a := range len(w.Painters) + 2 {
			events = append(events, impl.Event{Kind: kind, A: a})
		}
	}
	for _, kind := range []int{4, 5, 6} {
		for a := -1; a <= len(w.Nets); a++ {
			events = append(events, impl.Event{Kind: kind, A: a})
		}
	}
	return events
}

// holdOneMore fails unless edits, and what was shown, stay, and at most one of each is more.
func holdOneMore(t *testing.T, w, x impl.World, e impl.Event) {
	t.Helper()
	edits, shown := len(w.Keeper.Edits), len(w.Keeper.Shown)
	if len(x.Keeper.Edits) < edits || len(x.Keeper.Edits) > edits+1 || !slices.Equal(x.Keeper.Edits[:edits], w.Keeper.Edits) {
		t.Fatalf("%s: behind %v the edits are %v", worldText(w), e, x.Keeper.Edits)
	}
	if len(x.Keeper.Shown) < shown || len(x.Keeper.Shown) > shown+1 || !slices.EqualFunc(x.Keeper.Shown[:shown], w.Keeper.Shown, sameShown) {
		t.Fatalf("%s: behind %v what was shown is %v", worldText(w), e, x.Keeper.Shown)
	}
}

func TestPromise83EachEvent(t *testing.T) {
	d := &dice{83}
	changed := map[int]int{}
	shows := 0
	eachWorld(t, d, worldGrids(t), func(w impl.World) {
		for _, e := range eachEvent(d, w) {
			x := mustHappen(t, w, e)
			holdOneMore(t, w, x, e)
			if want := handHappen(w, e); !sameWorld(x, want) {
				t.Fatalf("%s: behind %v it is %s, by hand %s", worldText(w), e, worldText(x), worldText(want))
			}
			if !sameWorld(x, w) {
				changed[e.Kind]++
			}
			if len(x.Keeper.Shown) > len(w.Keeper.Shown) {
				shows++
			}
		}
	})
	for kind := 1; kind <= 8; kind++ {
		if changed[kind] < 30 {
			t.Errorf("%d events of the kind %d change something", changed[kind], kind)
		}
	}
	if len(changed) != 8 || shows < 20 {
		t.Errorf("%v change something, %d show something", changed, shows)
	}
}

func TestPromise84PlayIsEachEvent(t *testing.T) {
	eachPlay(t, &dice{84}, worldGrids(t), func(g impl.Grid, many int, events []impl.Event, worlds []impl.World) {
		w := mustWorld(t, g, many)
		for i := range len(events) + 1 {
			if i > 0 {
				w = impl.WorldDo(w, events[i-1])
			}
			if !sameWorld(w, worlds[i]) {
				t.Fatalf("%v: behind %v it is %s, by hand %s", g, events[:i], worldText(w), worldText(worlds[i]))
			}
			if i%7 != 0 && i < len(events)-1 {
				continue
			}
			if x := mustPlay(t, g, many, events[:i]); !sameWorld(x, w) {
				t.Fatalf("%v: WorldPlay of %v is %s, WorldDo of each %s", g, events[:i], worldText(x), worldText(w))
			}
		}
	})
}

// pathsOf is how often something came that is rare in plays, so that it is seen to be tested.
type pathsOf struct {
	shown, skipped, full, fellTold, elder, doubled int
}

// count takes down what came in a play.
func (p *pathsOf) count(events []impl.Event, worlds []impl.World) {
	for i, e := range events {
		ahead, behind := worlds[i], worlds[i+1]
		if len(ahead.Nets) == netMost && (e.Kind == 2 || e.Kind == 3 || e.Kind == 6) {
			p.full++
		}
		if e.Kind == 7 && e.A >= 1 && e.A <= len(ahead.Painters) && ahead.Keeper.Parts[e.A-1].Has && ahead.Painters[e.A-1].Has {
			p.fellTold++
		}
		if e.Kind == 6 && len(behind.Nets) > len(ahead.Nets) {
			p.doubled++
		}
		for id := range ahead.Keeper.Parts {
			if behind.Keeper.Parts[id].Has && behind.Keeper.Parts[id].Ver < ahead.Keeper.Parts[id].Ver {
				p.elder++
			}
		}
	}
	last := worlds[len(worlds)-1].Keeper
	p.shown += len(last.Shown)
	if len(last.Shown) > 0 && last.Shown[len(last.Shown)-1].Ver >= len(last.Shown) {
		p.skipped++
	}
}

// hold fails unless all of it came.
func (p pathsOf) hold(t *testing.T) {
	t.Helper()
	if p.shown < 40 || p.skipped < 5 || p.full < 20 || p.fellTold < 5 || p.elder < 5 || p.doubled < 40 {
		t.Fatalf("too little happens: %+v", p)
	}
}

func TestPromise85Never(t *testing.T) {
	var paths pathsOf
	eachPlay(t, &dice{85}, slices.Repeat(worldGrids(t), 3), func(g impl.Grid, many int, events []impl.Event, worlds []impl.World) {
		paths.count(events, worlds)
		w := mustWorld(t, g, many)
		for _, e := range events {
			w = mustHappen(t, w, e)
			if !ascends(w.Keeper.Shown) {
				t.Fatalf("%v: behind %v what was shown is %v", g, events, w.Keeper.Shown)
			}
		}
		w = mustPlay(t, g, many, events)
		if !ascends(w.Keeper.Shown) {
			t.Fatalf("%v: behind %v what was shown is %v", g, events, w.Keeper.Shown)
		}
		for _, s := range w.Keeper.Shown {
			of := mustKeepGrid(t, w.Keeper, s.Ver)
			if !slices.Equal(s.Pic, impl.PicOf(of)) || !slices.Equal(s.Pic, handPic(handGridOf(w.Keeper, s.Ver))) {
				t.Fatalf("%v: behind %v of the version %d is shown %v", g, events, s.Ver, s.Pic)
			}
		}
	})
	paths.hold(t)
}

func TestPromise86ComesToIt(t *testing.T) {
	later := 0
	eachPlay(t, &dice{86}, worldGrids(t), func(g impl.Grid, many int, events []impl.Event, _ []impl.World) {
		w := mustPlay(t, g, many, events)
		x := mustCalm(t, w, sixRounds)
		holdCame(t, x)
		if len(x.Keeper.Shown) > len(w.Keeper.Shown) {
			later++
		}
	})
	if later < 20 {
		t.Fatalf("%d times calm rounds show something", later)
	}
}

func TestPromise87SameAsJustTheEdits(t *testing.T) {
	eachPlay(t, &dice{87}, worldGrids(t), func(g impl.Grid, many int, events []impl.Event, _ []impl.World) {
		last := lastShown(t, mustCalm(t, mustPlay(t, g, many, events), sixRounds))
		var edits []impl.Event
		of := g
		for _, e := range events {
			if e.Kind != impl.EvEdit {
				continue
			}
			edits = append(edits, e)
			if put, ok := impl.GridPut(of, e.Edit.At, e.Edit.Cell); ok {
				of = put
			}
		}
		just := lastShown(t, mustCalm(t, mustPlay(t, g, many, edits), sixRounds))
		if !sameShown(last, just) || !slices.Equal(last.Pic, impl.PicOf(of)) {
			t.Fatalf("%v: behind %v is shown %v, of just the edits %v, of %v", g, events, last, just, of)
		}
	})
}

func TestPromise88FallsAndComesAgain(t *testing.T) {
	eachPlay(t, &dice{88}, worldGrids(t), func(g impl.Grid, many int, events []impl.Event, _ []impl.World) {
		calm := mustCalm(t, mustPlay(t, g, many, events), sixRounds)
		for id := 1; id <= many; id++ {
			fell := mustHappen(t, calm, falls(id))
			if !isNoPainter(fell.Painters[id-1]) {
				t.Fatalf("%v: %d fell, and is %v", g, id, fell.Painters[id-1])
			}
			x := mustCalm(t, fell, sixRounds)
			holdCame(t, x)
			if !slices.EqualFunc(x.Keeper.Shown, calm.Keeper.Shown, sameShown) {
				t.Fatalf("%v: %d fell, and then is shown %v, ahead %v", g, id, x.Keeper.Shown, calm.Keeper.Shown)
			}
		}
	})
}

func TestPromise89WhatThereIsNot(t *testing.T) {
	eachWorld(t, &dice{89}, worldGrids(t), func(w impl.World) {
		for _, kind := range []int{0, 9, -1, 10, -8, 256 + 1, 256 + 4, 1<<32 + 7, math.MinInt, math.MaxInt} {
			for a := range netMost {
				holdWorldStays(t, "no kind", w, impl.Event{Kind: kind, A: a, Edit: edit(0, "5")})
			}
		}
		many := len(w.Painters)
		for _, kind := range []int{2, 3, 7, 8} {
			for _, a := range []int{0, many + 1, many + 2, -1, -many, 256 + 1, 1<<32 + 1, math.MinInt, math.MaxInt} {
				holdWorldStays(t, "no such painter", w, impl.Event{Kind: kind, A: a, Edit: edit(0, "5")})
			}
		}
		under := len(w.Nets)
		for _, kind := range []int{4, 5, 6} {
			for _, a := range []int{-1, under, under + 1, -under - 1, netMost, 256, 1 << 32, math.MinInt, math.MaxInt} {
				if a >= 0 && a < under {
					continue
				}
				holdWorldStays(t, "no such word", w, impl.Event{Kind: kind, A: a, Edit: edit(0, "5")})
			}
		}
	})
}

func TestPromise90Doubled(t *testing.T) {
	d := &dice{90}
	moved, stays := 0, 0
	eachWorld(t, d, worldGrids(t), func(w impl.World) {
		for at, word := range w.Nets {
			if word.To == 0 || len(w.Nets) == netMost {
				continue
			}
			last := len(w.Nets)
			once := mustHappen(t, w, brings(at))
			twice := mustHappen(t, w, doubles(at))
			if len(twice.Nets) != last+1 || !sameWord(twice.Nets[last], word) {
				t.Fatalf("%s: behind EvTwice of %d it is %s", worldText(w), at, worldText(twice))
			}
			for _, x := range []impl.World{mustHappen(t, twice, brings(at), brings(last-1)), mustHappen(t, twice, brings(last), brings(at))} {
				if !sameWorld(x, once) {
					t.Fatalf("%s: the word %d brought twice it is %s, once %s", worldText(w), at, worldText(x), worldText(once))
				}
			}
			if samePainter(once.Painters[word.To-1], w.Painters[word.To-1]) {
				stays++
			} else {
				moved++
			}
		}
	})
	if moved < 40 || stays < 40 {
		t.Fatalf("%d words move a painter, %d do not", moved, stays)
	}
}

func TestPromise91MoreCalmRounds(t *testing.T) {
	eachPlay(t, &dice{91}, worldGrids(t), func(g impl.Grid, many int, events []impl.Event, _ []impl.World) {
		w := mustCalm(t, mustPlay(t, g, many, events), sixRounds)
		for _, more := range []int{1, sixRounds, calmMost} {
			x := mustCalm(t, w, more)
			if !slices.EqualFunc(x.Keeper.Shown, w.Keeper.Shown, sameShown) || !slices.EqualFunc(x.Painters, w.Painters, samePainter) {
				t.Fatalf("%s: behind %d rounds more it is %s", worldText(w), more, worldText(x))
			}
		}
	})
}

func TestPromise92EachHasItsVersion(t *testing.T) {
	has := 0
	eachPlay(t, &dice{92}, worldGrids(t), func(g impl.Grid, many int, events []impl.Event, _ []impl.World) {
		w := mustWorld(t, g, many)
		for i, e := range events {
			w = mustHappen(t, w, e)
			if i%5 != 0 && i < len(events)-1 {
				continue
			}
			for id, p := range w.Painters {
				if !p.Has {
					continue
				}
				has++
				of := mustKeepGrid(t, w.Keeper, p.Ver)
				if !sameScene(p.Scene, mustScene(t, of)) || !sameScene(p.Scene, handScene(handGridOf(w.Keeper, p.Ver))) {
					t.Fatalf("%v: behind %v %d has %v", g, events[:i+1], id+1, p)
				}
			}
		}
	})
	if has < 200 {
		t.Fatalf("%d times a painter has a scene", has)
	}
}

func TestPromise93NewestIsAllEdits(t *testing.T) {
	cannot := 0
	eachPlay(t, &dice{93}, worldGrids(t), func(g impl.Grid, many int, events []impl.Event, _ []impl.World) {
		w := mustPlay(t, g, many, events)
		of, done := g, 0
		for _, e := range events {
			if e.Kind != impl.EvEdit {
				continue
			}
			if put, ok := impl.GridPut(of, e.Edit.At, e.Edit.Cell); ok {
				of, done = put, done+1
			} else {
				cannot++
			}
		}
		if len(w.Keeper.Edits) != done || !slices.Equal(w.Keeper.Edits, editsOf(g, events)) || !sameGrid(w.Keeper.First, g) {
			t.Fatalf("%v: behind %v the edits are %v", g, events, w.Keeper.Edits)
		}
		if newest := mustKeepGrid(t, w.Keeper, done); !sameGrid(newest, of) {
			t.Fatalf("%v: behind %v the newest version is %v, not %v", g, events, newest, of)
		}
	})
	if cannot < 20 {
		t.Fatalf("%d edits cannot be done", cannot)
	}
}

func TestPromise94AllLostAndFallen(t *testing.T) {
	lost := 0
	eachPlay(t, &dice{94}, worldGrids(t), func(g impl.Grid, many int, events []impl.Event, _ []impl.World) {
		w := mustPlay(t, g, many, events)
		for range w.Nets {
			w = mustHappen(t, w, loses(0))
			lost++
		}
		for id := 1; id <= many; id++ {
			w = mustHappen(t, w, falls(id))
		}
		if len(w.Nets) != 0 || slices.ContainsFunc(w.Painters, func(p impl.Painter) bool { return !isNoPainter(p) }) {
			t.Fatalf("all lost, and fallen: %s", worldText(w))
		}
		holdCame(t, mustCalm(t, w, sixRounds))
	})
	if lost < 50 {
		t.Fatalf("%d words are lost", lost)
	}
}

func TestPromise95SomeRoundsAndTheOthers(t *testing.T) {
	eachPlay(t, &dice{95}, worldGrids(t), func(g impl.Grid, many int, events []impl.Event, worlds []impl.World) {
		w := worlds[len(worlds)-1]
		by := []impl.World{w}
		for rounds := range calmMost {
			// By hand rounds are slow, and nothing changes any more behind some of them.
			next := by[rounds]
			if rounds < sixRounds {
				next = handRound(next)
			}
			by = append(by, next)
		}
		for _, all := range []int{0, 1, 2, 3, sixRounds, calmMost} {
			if x := mustCalm(t, w, all); !sameWorld(x, by[all]) {
				t.Fatalf("%s: behind %d rounds it is %s, by hand %s", worldText(w), all, worldText(x), worldText(by[all]))
			}
			for _, some := range []int{0, 1, 2, all / 2, all - 1, all} {
				if some < 0 || some > all {
					continue
				}
				if x := mustCalm(t, mustCalm(t, w, some), all-some); !sameWorld(x, by[all]) {
					t.Fatalf("%s: behind %d rounds, and %d, it is %s, by hand %s", worldText(w), some, all-some, worldText(x), worldText(by[all]))
				}
			}
		}
	})
}

func TestPromise96RiseAndFall(t *testing.T) {
	up, down := 0, 0
	eachWorld(t, &dice{96}, worldGrids(t), func(w impl.World) {
		for i, p := range w.Painters {
			id := i + 1
			fell := mustHappen(t, w, falls(id))
			holdWorldStays(t, "fell already", fell, falls(id))
			rose := mustHappen(t, fell, rises(id))
			holdWorldStays(t, "rose already", rose, rises(id))
			if !isNoPainter(fell.Painters[i]) || !samePainter(rose.Painters[i], impl.Painter{Up: true}) {
				t.Fatalf("%s: %d falls, and rises, and is %v, %v", worldText(w), id, fell.Painters[i], rose.Painters[i])
			}
			// All else stays: what is known of it, too, and words to it, and from it.
			want := copyWorld(w)
			want.Painters[i] = impl.Painter{}
			if !sameWorld(fell, want) {
				t.Fatalf("%s: behind EvFall of %d it is %s", worldText(w), id, worldText(fell))
			}
			want.Painters[i].Up = true
			if !sameWorld(rose, want) {
				t.Fatalf("%s: behind EvFall, and EvRise, of %d it is %s", worldText(w), id, worldText(rose))
			}
			if p.Up {
				up++
				holdWorldStays(t, "is up", w, rises(id))
			} else {
				down++
				holdWorldStays(t, "is down", w, falls(id))
			}
		}
	})
	if up < 50 || down < 20 {
		t.Fatalf("%d are up, %d down", up, down)
	}
}
