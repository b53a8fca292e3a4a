package tests

import (
	"slices"
	"testing"

	"loop.example/lucarne/impl"
)

func TestPromise73KeepNew(t *testing.T) {
	for _, g := range slices.Concat(keepGrids(t), wholeGrids(), freeGrids(), allGrids(1, 1), allGrids(2, 1)) {
		for many := 1; many <= paintMost; many++ {
			k := mustKeep(t, g, many)
			if len(k.Edits) != 0 || len(k.Shown) != 0 || len(k.Parts) != many {
				t.Fatalf("KeepNew(%v, %d) is %v", g, many, k)
			}
			for _, p := range k.Parts {
				if !samePart(p, impl.Part{}) {
					t.Fatalf("KeepNew(%v, %d) has %v", g, many, p)
				}
			}
			if x := mustKeepGrid(t, k, 0); !sameGrid(x, g) || !sameGrid(k.First, g) {
				t.Fatalf("KeepNew(%v, %d) has %v, %v", g, many, k.First, x)
			}
			holdNoVersion(t, "one more than the newest", k, 1)
		}
	}
}

// holdVersions fails unless each version is the one ahead with its edit, and is so by hand.
func holdVersions(t *testing.T, k impl.Keeper) {
	t.Helper()
	g := mustKeepGrid(t, k, 0)
	if !sameGrid(g, k.First) {
		t.Fatalf("%v: the version 0 is %v", k, g)
	}
	for i, e := range k.Edits {
		next, ok := impl.GridPut(g, e.At, e.Cell)
		g = mustKeepGrid(t, k, i+1)
		if !ok || !sameGrid(g, next) || !sameGrid(g, handGridOf(k, i+1)) {
			t.Fatalf("%v: the version %d is %v, not %v", k, i+1, g, next)
		}
	}
}

func TestPromise74VersionsOneBehindTheOther(t *testing.T) {
	d := &dice{74}
	eachKeeper(t, d, keepGrids(t), func(k impl.Keeper) { holdVersions(t, k) })
	for _, g := range slices.Concat(allGrids(1, 1)[:2], roundGrids(t)[:2]) {
		for _, k := range fullKeepers(d, g) {
			holdVersions(t, k)
		}
	}
}

func TestPromise75OneEditMore(t *testing.T) {
	d := &dice{75}
	eachKeeper(t, d, keepGrids(t), func(k impl.Keeper) {
		e := rolledEdits(d, k.First, 1)[0]
		x := mustKeepEdit(t, k, e)
		want := copyKeeper(k)
		want.Edits = append(want.Edits, e)
		if !sameKeeper(x, want) {
			t.Fatalf("%v with %v is %v", k, e, x)
		}
		for ver := range len(x.Edits) {
			if g := mustKeepGrid(t, x, ver); !sameGrid(g, mustKeepGrid(t, k, ver)) {
				t.Fatalf("%v with %v: the version %d is %v", k, e, ver, g)
			}
		}
		newest := len(k.Edits)
		if g := mustKeepGrid(t, x, newest+1); !sameGrid(g, handPut(handGridOf(k, newest), e)) {
			t.Fatalf("%v with %v: the newest version is %v", k, e, g)
		}
	})
}

// toldOf is a keeper of so many painters, of which one told of a version, and all others nothing.
func toldOf(g impl.Grid, edits []impl.Edit, id, many, ver int) impl.Keeper {
	told := slices.Repeat([]int{-1}, many)
	told[id-1] = ver
	return handKeeper(g, edits, told, nil)
}

func TestPromise76WhatIsTold(t *testing.T) {
	d := &dice{76}
	edits, wholes := 0, 0
	eachKeeper(t, d, keepGrids(t), func(k impl.Keeper) {
		newest := len(k.Edits)
		for i, p := range k.Parts {
			w := mustKeepTell(t, k, i+1)
			if want := handKeepTell(k, i+1); !sameWord(w, want) {
				t.Fatalf("%v tells %d %v, by hand %v", k, i+1, w, want)
			}
			if p.Has && p.Ver < newest && p.Ver >= newest-editFar {
				edits++
				if w.Kind != impl.WordEdit || w.Ver != p.Ver+1 || w.Edit != k.Edits[p.Ver] || !isNoGrid(w.Grid) {
					t.Fatalf("%v tells %d %v", k, i+1, w)
				}
			} else {
				wholes++
				if w.Kind != impl.WordWhole || w.Ver != newest || !sameGrid(w.Grid, mustKeepGrid(t, k, newest)) || w.Edit != (impl.Edit{}) {
					t.Fatalf("%v tells %d %v", k, i+1, w)
				}
			}
			if w.To != i+1 || w.From != 0 || len(w.Lights) != 0 {
				t.Fatalf("%v tells %d %v", k, i+1, w)
			}
		}
	})
	if edits < 50 || wholes < 50 {
		t.Fatalf("%d edits, and %d wholes are told", edits, wholes)
	}
}

func TestPromise76OfEachTwoVersions(t *testing.T) {
	g := mustRead(t, "x5\n")
	edits := rolledEdits(&dice{176}, g, verMost)
	for newest := range verMost + 1 {
		for ver := -1; ver <= newest; ver++ {
			k := toldOf(g, edits[:newest], 2, 2, ver)
			w := mustKeepTell(t, k, 2)
			if far := newest - ver; ver >= 0 && far >= 1 && far <= editFar {
				if !sameWord(w, impl.Word{Kind: 2, To: 2, Ver: ver + 1, Edit: edits[ver]}) {
					t.Fatalf("of %d, when %d is newest, %v is told", ver, newest, w)
				}
			} else if !sameWord(w, impl.Word{Kind: 1, To: 2, Ver: newest, Grid: handPut(g, edits[:newest]...)}) {
				t.Fatalf("of %d, when %d is newest, %v is told", ver, newest, w)
			}
		}
	}
}

func TestPromise77ALaterOneBehindKeepTell(t *testing.T) {
	d := &dice{77}
	later, newest := 0, 0
	eachKeeper(t, d, keepGrids(t), func(k impl.Keeper) {
		for i, part := range k.Parts {
			if !part.Has {
				continue
			}
			p := impl.Painter{Up: true, Has: true, Ver: part.Ver, Scene: mustScene(t, mustKeepGrid(t, k, part.Ver))}
			x := mustHear(t, p, mustKeepTell(t, k, i+1))
			if part.Ver == len(k.Edits) {
				newest++
				if !samePainter(x, p) {
					t.Fatalf("%v: %d has the newest, and becomes %v", k, i+1, x)
				}
				continue
			}
			later++
			if x.Ver <= part.Ver || x.Ver > len(k.Edits) || !sameScene(x.Scene, mustScene(t, mustKeepGrid(t, k, x.Ver))) {
				t.Fatalf("%v: %d, who has %d, becomes %v", k, i+1, part.Ver, x)
			}
			if !samePainter(x, handPainter(x.Ver, handGridOf(k, x.Ver))) {
				t.Fatalf("%v: %d, who has %d, becomes %v", k, i+1, part.Ver, x)
			}
		}
	})
	if later < 50 || newest < 50 {
		t.Fatalf("%d have a later one, %d the newest", later, newest)
	}
}

// holdAtMostOneMore fails unless what was shown stays, at most one picture of a newer version more is shown, and just if all parts are of that.
func holdAtMostOneMore(t *testing.T, k, x impl.Keeper) bool {
	t.Helper()
	many := len(k.Shown)
	if len(x.Shown) < many || len(x.Shown) > many+1 || !slices.EqualFunc(x.Shown[:many], k.Shown, sameShown) {
		t.Fatalf("what was shown by %v is behind a word %v", k, x.Shown)
	}
	last := -1
	if many > 0 {
		last = k.Shown[many-1].Ver
	}
	more := len(x.Shown) > many
	if due := allOfOne(x.Parts) && x.Parts[0].Ver > last; due != more {
		t.Fatalf("%v becomes %v", k, x)
	}
	if more && (x.Shown[many].Ver != x.Parts[0].Ver || !slices.Equal(x.Shown[many].Pic, mustPic(t, handGridOf(x, x.Parts[0].Ver)))) {
		t.Fatalf("%v becomes %v", k, x)
	}
	return more
}

func TestPromise78BehindATruePart(t *testing.T) {
	d := &dice{78}
	shows, stays := 0, 0
	eachKeeper(t, d, keepGrids(t), func(k impl.Keeper) {
		for id := 1; id <= len(k.Parts); id++ {
			for ver := range len(k.Edits) + 1 {
				w := truePart(k, id, ver)
				x := mustKeepHear(t, k, w)
				if want := handKeepHear(k, w); !sameKeeper(x, want) {
					t.Fatalf("%v hears %v, and is %v, by hand %v", k, w, x, want)
				}
				if !samePart(x.Parts[id-1], handPart(k, id, ver)) {
					t.Fatalf("%v hears %v, and is %v", k, w, x)
				}
				if holdAtMostOneMore(t, k, x) {
					shows++
				} else {
					stays++
				}
			}
		}
	})
	if shows < 100 || stays < 100 {
		t.Fatalf("%d times something is shown, %d times nothing", shows, stays)
	}
}

func TestPromise79BehindWant(t *testing.T) {
	eachKeeper(t, &dice{79}, keepGrids(t), func(k impl.Keeper) {
		for id := 1; id <= len(k.Parts); id++ {
			x := mustKeepHear(t, k, wantWord(id))
			want := copyKeeper(k)
			want.Parts[id-1] = impl.Part{}
			if !sameKeeper(x, want) {
				t.Fatalf("%v: %d wants the whole, and it is %v", k, id, x)
			}
			newest := len(k.Edits)
			if w := mustKeepTell(t, x, id); !sameWord(w, impl.Word{Kind: impl.WordWhole, To: id, Ver: newest, Grid: mustKeepGrid(t, k, newest)}) {
				t.Fatalf("%v: %d wants the whole, and is told %v", k, id, w)
			}
		}
	})
}

// noWords is words that are none to an ok keeper, though there is all in them that could be heard.
func noWords(k impl.Keeper) []impl.Word {
	var words []impl.Word
	newest, many := len(k.Edits), len(k.Parts)
	for _, kind := range []int{0, 1, 2, 5, -1, 6, 256 + 3, 256 + 4, 1<<32 + 3, 1<<32 + 4} {
		w := truePart(k, many, newest)
		w.Kind, w.To, w.Grid, w.Edit = kind, many, k.First, edit(0, "5")
		words = append(words, w)
	}
	for _, from := range wrongFroms(many) {
		w := truePart(k, 1, newest)
		w.From, w.To = from, 1
		words = append(words, w, wantWord(from))
	}
	for _, ver := range wrongNewest(newest) {
		w := truePart(k, 1, 0)
		w.Ver = ver
		words = append(words, w)
	}
	for id := 1; id <= many; id++ {
		few, more, none := truePart(k, id, newest), truePart(k, id, newest), truePart(k, id, newest)
		few.Lights, more.Lights, none.Lights = few.Lights[:len(few.Lights)-1], append(more.Lights, 0), nil
		words = append(words, few, more, none)
	}
	return append(words, impl.Word{})
}

func TestPromise79WhatIsNoWord(t *testing.T) {
	eachKeeper(t, &dice{179}, keepGrids(t), func(k impl.Keeper) {
		for _, w := range noWords(k) {
			holdKeepStays(t, "no word to a keeper", k, w)
		}
	})
}

// ascends says whether each version that was shown is later than the one ahead of it.
func ascends(shown []impl.Shown) bool {
	last := -1
	for _, s := range shown {
		if s.Ver <= last {
			return false
		}
		last = s.Ver
	}
	return true
}

// holdTrue fails unless all that a keeper showed, and all that it was told, is that of its versions.
func holdTrue(t *testing.T, k impl.Keeper) {
	t.Helper()
	for _, s := range k.Shown {
		if !slices.Equal(s.Pic, impl.PicOf(mustKeepGrid(t, k, s.Ver))) {
			t.Fatalf("%v: what was shown is %v", k, s)
		}
	}
	if !ascends(k.Shown) {
		t.Fatalf("%v: what was shown does not ascend", k)
	}
	for i, p := range k.Parts {
		if !p.Has {
			continue
		}
		if p.Ver < 0 || p.Ver > len(k.Edits) || !samePart(p, handPart(k, i+1, p.Ver)) {
			t.Fatalf("%v: %d told %v", k, i+1, p)
		}
	}
}

// rolledStep is a keeper behind an edit, or a word that is true, or wants the whole, or is none; mostly of versions near the newest.
func rolledStep(t *testing.T, d *dice, k impl.Keeper) impl.Keeper {
	t.Helper()
	id, newest := 1+d.roll(len(k.Parts)), len(k.Edits)
	switch d.roll(8) {
	case 0:
		if newest < verMost {
			return mustKeepEdit(t, k, rolledEdits(d, k.First, 1)[0])
		}
	case 1:
		return mustKeepHear(t, k, wantWord(id))
	case 2:
		words := noWords(k)
		return mustKeepHear(t, k, words[d.roll(len(words))])
	case 3:
		return mustKeepHear(t, k, truePart(k, id, d.roll(newest+1)))
	}
	return mustKeepHear(t, k, truePart(k, id, max(0, newest-d.roll(2))))
}

func TestPromise80AllIsOfItsVersion(t *testing.T) {
	d := &dice{80}
	most := 0
	for _, g := range keepGrids(t) {
		for many := 1; many <= paintMost; many++ {
			k := mustKeep(t, g, many)
			for range 60 {
				x := rolledStep(t, d, k)
				holdAtMostOneMore(t, k, x)
				holdTrue(t, x)
				k = x
			}
			most = max(most, len(k.Shown))
		}
	}
	if most < 5 {
		t.Fatalf("at most %d pictures are shown", most)
	}
}

func TestPromise80WhatIsOkIsTrue(t *testing.T) {
	ok, wrong := 0, 0
	eachKeeper(t, &dice{180}, keepGrids(t), func(k impl.Keeper) {
		holdTrue(t, k)
		ok++
		// Another version's number on what is shown, or told, is ok just if it is true of that, too.
		for at, s := range k.Shown {
			for ver := range len(k.Edits) + 1 {
				x := copyKeeper(k)
				x.Shown[at].Ver = ver
				may := ascends(x.Shown) && slices.Equal(s.Pic, handPic(handGridOf(k, ver)))
				if impl.KeepOk(x) != may {
					t.Fatalf("%v: ok is not %v", x, may)
				}
				if !may {
					wrong++
				}
			}
		}
		for i, p := range k.Parts {
			for ver := range len(k.Edits) + 1 {
				x := copyKeeper(k)
				x.Parts[i].Ver, x.Parts[i].Has = ver, true
				may := p.Has && slices.Equal(p.Lights, handPart(k, i+1, ver).Lights)
				if impl.KeepOk(x) != may {
					t.Fatalf("%v: ok is not %v", x, may)
				}
				if !may {
					wrong++
				}
			}
		}
	})
	if ok < 100 || wrong < 100 {
		t.Fatalf("%d are ok, %d are not", ok, wrong)
	}
}

func TestPromise81TheSameOnceMore(t *testing.T) {
	changed := 0
	eachKeeper(t, &dice{81}, keepGrids(t), func(k impl.Keeper) {
		words := noWords(k)
		for id := 1; id <= len(k.Parts); id++ {
			words = append(words, wantWord(id))
			for _, ver := range toldVers(len(k.Edits))[1:] {
				words = append(words, truePart(k, id, ver))
			}
		}
		for _, w := range words {
			x := mustKeepHear(t, k, w)
			if !sameKeeper(x, k) {
				changed++
			}
			holdKeepStays(t, "once more", x, w)
			for i, p := range k.Parts {
				if i+1 != w.From && !samePart(x.Parts[i], p) {
					t.Fatalf("%v hears %v, and is %v", k, w, x)
				}
			}
			if !sameGrid(x.First, k.First) || !slices.Equal(x.Edits, k.Edits) || len(x.Parts) != len(k.Parts) {
				t.Fatalf("%v hears %v, and is %v", k, w, x)
			}
		}
	})
	if changed < 100 {
		t.Fatalf("%d words change something", changed)
	}
}
