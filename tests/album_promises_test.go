package tests

import (
	"slices"
	"testing"

	"loop.example/lucarne/impl"
)

func TestPromise58AlbumNew(t *testing.T) {
	for _, g := range slices.Concat(trailGrids(t), sceneGrids(t), allGrids(2, 1)) {
		a, ok := impl.AlbumNew(g)
		if !ok || !impl.AlbumOk(a) {
			t.Fatalf("AlbumNew(%v) is %v, %v", g, a, ok)
		}
		if !sameScene(a.Scene, mustScene(t, g)) || len(a.Past) != 0 || len(a.Next) != 0 {
			t.Fatalf("AlbumNew(%v) is %v", g, a)
		}
		if want := handAlbum(g, nil, nil); !sameAlbum(a, want) || !impl.AlbumOk(want) {
			t.Fatalf("AlbumNew(%v) is %v, by hand %v", g, a, want)
		}
		holdNotBack(t, a)
		holdNotOn(t, a)
	}
}

func TestPromise59DoAndBack(t *testing.T) {
	changed := 0
	eachEdit(t, albumGrids(t), func(s impl.Scene, e impl.Edit) {
		a := mustDo(t, impl.Album{Scene: s}, e)
		if want, _ := mustEdit(t, s, e); !sameScene(a.Scene, want) {
			t.Fatalf("%v with %v is %v, not %v", s.Grid, e, a.Scene, want)
		}
		if len(a.Past) != 1 || a.Past[0] != handUndo(s.Grid, e) || len(a.Next) != 0 {
			t.Fatalf("%v with %v has %v, %v", s.Grid, e, a.Past, a.Next)
		}
		back := mustBack(t, a, 1)
		if !sameScene(back.Scene, s) || len(back.Past) != 0 || len(back.Next) != 1 || back.Next[0] != e {
			t.Fatalf("%v with %v, and back, is %v", s.Grid, e, back)
		}
		if !slices.Equal(a.Scene.Lights, s.Lights) {
			changed++
		}
	})
	if changed == 0 {
		t.Fatal("no edit makes another picture")
	}
}

func TestPromise59WithMoreInThePast(t *testing.T) {
	d := &dice{59}
	eachAlbum(d, albumGrids(t), func(a impl.Album) {
		e := rolledEdits(d, a.Scene.Grid, 1)[0]
		done := mustDo(t, a, e)
		if want := handDo(a, e); !sameAlbum(done, want) {
			t.Fatalf("%v with %v is %v, by hand %v", a, e, done, want)
		}
		back := mustBack(t, done, 1)
		// What was eldest is gone, if there was no room; all else is as ahead.
		past := a.Past
		if len(past) == albumMost {
			past = past[1:]
		}
		if !sameScene(back.Scene, a.Scene) || !slices.Equal(back.Past, past) || !slices.Equal(back.Next, []impl.Edit{e}) {
			t.Fatalf("%v with %v, and back, is %v", a, e, back)
		}
	})
}

// holdThereAndAgain fails unless each album that can go one way does as by hand, and is as ahead when it goes the other way behind that.
func holdThereAndAgain(t *testing.T, d *dice, hand, there, again func(impl.Album) (impl.Album, bool)) {
	t.Helper()
	can, cannot := 0, 0
	eachAlbum(d, albumGrids(t), func(a impl.Album) {
		want, may := hand(a)
		x, ok := there(a)
		if ok != may || !sameAlbum(x, want) {
			t.Fatalf("%v becomes %v, %v, by hand %v, %v", a, x, ok, want, may)
		}
		if !may {
			cannot++
			return
		}
		can++
		if y, ok := again(x); !ok || !sameAlbum(y, a) {
			t.Fatalf("%v becomes %v, and then %v, %v", a, x, y, ok)
		}
	})
	if can == 0 || cannot == 0 {
		t.Fatalf("%d can go, %d cannot", can, cannot)
	}
}

func TestPromise60BackAndOn(t *testing.T) {
	holdThereAndAgain(t, &dice{60}, handBack, impl.AlbumBack, impl.AlbumOn)
}

func TestPromise61OnAndBack(t *testing.T) {
	holdThereAndAgain(t, &dice{61}, handOn, impl.AlbumOn, impl.AlbumBack)
}

// allBack goes back as often as can be, and tells how often that was.
func allBack(t *testing.T, a impl.Album) (impl.Album, int) {
	t.Helper()
	for many := 0; ; many++ {
		x, ok := impl.AlbumBack(a)
		if !ok {
			return a, many
		}
		if want := handScene(x.Scene.Grid); !sameScene(x.Scene, want) || !impl.AlbumOk(x) {
			t.Fatalf("%v back is %v, whose grid's scene is %v", a, x, want)
		}
		if many == 2*albumMost {
			t.Fatalf("%v goes back for ever", a)
		}
		a = x
	}
}

func TestPromise62AllBackAndOn(t *testing.T) {
	eachAlbum(&dice{62}, albumGrids(t), func(a impl.Album) {
		x, many := allBack(t, a)
		for range many {
			x = mustOn(t, x, 1)
			if want := handScene(x.Scene.Grid); !sameScene(x.Scene, want) {
				t.Fatalf("%v is not %v", x, want)
			}
		}
		if !sameAlbum(x, a) {
			t.Fatalf("%v, %d times back and on, is %v", a, many, x)
		}
	})
}

func TestPromise62BehindEdits(t *testing.T) {
	d := &dice{162}
	for _, g := range albumGrids(t) {
		for _, many := range []int{1, 2, 11, 12, 13, 20} {
			list := rolledEdits(d, g, many)
			a := mustDo(t, mustAlbum(t, g), list...)
			x, times := allBack(t, a)
			forgotten := max(0, many-albumMost)
			if times != many-forgotten || !sameScene(x.Scene, handScene(handPut(g, list[:forgotten]...))) {
				t.Fatalf("%v with %v: back %d times, to %v", g, list, times, x)
			}
			if on := mustOn(t, x, times); !sameAlbum(on, a) {
				t.Fatalf("%v with %v, back and on, is %v, not %v", g, list, on, a)
			}
		}
	}
}

func TestPromise63NothingAgainBehindAnEdit(t *testing.T) {
	d := &dice{63}
	forgot := 0
	eachAlbum(d, albumGrids(t), func(a impl.Album) {
		forgot += len(a.Next)
		done := mustDo(t, a, rolledEdits(d, a.Scene.Grid, 1)...)
		if len(done.Next) != 0 {
			t.Fatalf("%v, and then an edit: %v can be done again", a, done.Next)
		}
		holdNotOn(t, done)
	})
	if forgot == 0 {
		t.Fatal("nothing could be done again ahead")
	}
}

func TestPromise63WhatCannotBePut(t *testing.T) {
	d := &dice{163}
	for _, g := range slices.Concat(roundGrids(t), wholeGrids(), gridsOf(63, 1, ".#/\\xz:159")) {
		for _, fill := range [][2]int{{0, 0}, {albumMost, 3}} {
			a := handAlbum(g, rolledEdits(d, g, fill[0]), rolledEdits(d, g, fill[1]))
			for _, e := range wrongEdits(g) {
				holdNotDo(t, a, e)
			}
		}
	}
}

func TestPromise64TwoEdits(t *testing.T) {
	d := &dice{64}
	one, two := 0, 0
	eachAlbum(d, albumGrids(t), func(a impl.Album) {
		pair := rolledEdits(d, a.Scene.Grid, 2)
		if pair[0].At == pair[1].At {
			one++
		} else {
			two++
		}
		done := mustDo(t, a, pair...)
		if want, _ := mustMany(t, a.Scene, pair...); !sameScene(done.Scene, want) {
			t.Fatalf("%v with %v is %v, not %v", a, pair, done.Scene, want)
		}
		if want := handScene(handPut(a.Scene.Grid, pair...)); !sameScene(done.Scene, want) {
			t.Fatalf("%v with %v is %v, by hand %v", a, pair, done.Scene, want)
		}
		if back := mustBack(t, done, 2); !sameScene(back.Scene, a.Scene) {
			t.Fatalf("%v with %v, and twice back, is %v", a, pair, back)
		}
	})
	if one == 0 || two == 0 {
		t.Fatalf("%d pairs at one place, %d at two", one, two)
	}
}

func TestPromise65AsManyBacksAsPastHas(t *testing.T) {
	whole, full := 0, 0
	eachAlbum(&dice{65}, albumGrids(t), func(a impl.Album) {
		last, many := allBack(t, a)
		if len(a.Past) <= albumMost-len(a.Next) {
			whole++
			if many != len(a.Past) || len(last.Past) != 0 {
				t.Fatalf("%v goes back %d times", a, many)
			}
		} else {
			full++
			if many != albumMost-len(a.Next) || len(last.Next) != albumMost {
				t.Fatalf("%v goes back %d times, with no more room in Next", a, many)
			}
		}
		if len(last.Past) != len(a.Past)-many || len(last.Next) != len(a.Next)+many {
			t.Fatalf("%v, %d times back, is %v", a, many, last)
		}
		holdNotBack(t, last)
	})
	if whole == 0 || full == 0 {
		t.Fatalf("%d go back all the way, %d find no room", whole, full)
	}
}

func TestAlbumsGoAsByHand(t *testing.T) {
	d := &dice{66}
	for _, g := range slices.Concat(roundGrids(t), wholeGrids(), gridsOf(66, 2, ".#/\\xz:159")) {
		a, hand := mustAlbum(t, g), handAlbum(g, nil, nil)
		for range 60 {
			var ok, may bool
			var x, y impl.Album
			switch d.roll(5) {
			case 0, 1:
				e := rolledEdits(d, g, 1)[0]
				x, ok = impl.AlbumDo(a, e)
				y, may = handDo(hand, e), true
			case 2, 3:
				x, ok = impl.AlbumBack(a)
				y, may = handBack(hand)
			default:
				x, ok = impl.AlbumOn(a)
				y, may = handOn(hand)
			}
			if ok != may || !sameAlbum(x, y) {
				t.Fatalf("%v becomes %v, %v, by hand %v, %v", a, x, ok, y, may)
			}
			if ok {
				a, hand = x, y
			}
		}
	}
}
