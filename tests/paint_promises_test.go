package tests

import (
	"slices"
	"testing"

	"loop.example/lucarne/impl"
)

func TestPromise66EachSightOfOnePainter(t *testing.T) {
	for _, g := range slices.Concat(paintGrids(t), freeGrids()) {
		sights := len(handSights(g))
		for many := 1; many <= paintMost; many++ {
			times := make([]int, sights)
			for id := 1; id <= many; id++ {
				own := impl.PaintOwn(g, id, many)
				if !slices.Equal(own, handOwn(g, id, many)) {
					t.Fatalf("%v: PaintOwn of %d of %d is %v, by hand %v", g, id, many, own, handOwn(g, id, many))
				}
				for _, k := range own {
					times[k]++
				}
			}
			if !slices.Equal(times, slices.Repeat([]int{1}, sights)) {
				t.Fatalf("%v: of %d painters the sights are told %v times", g, many, times)
			}
		}
		if all := impl.PaintOwn(g, 1, 1); !slices.Equal(all, countUp(sights)) {
			t.Fatalf("%v: the sights of one painter alone are %v", g, all)
		}
	}
}

// aroundVer is versions about that of a painter, and those at the edges, wrong ones among them, each once.
func aroundVer(ver int) []int {
	vers := []int{-1, 0, ver - 1, ver, ver + 1, ver + 2, verMost, verMost + 1}
	slices.Sort(vers)
	return slices.Compact(vers)
}

// rolledWords is words of each kind, and of none, with versions about one, and grids and edits right and wrong.
func rolledWords(d *dice, g impl.Grid, ver int) []impl.Word {
	wrong := wrongEdits(g)
	var words []impl.Word
	for _, v := range aroundVer(ver) {
		right := rolledEdits(d, g, 2)
		words = append(words,
			wholeWord(v, handPut(g, right...)), wholeWord(v, rolledGrid(d, 1+d.roll(5), 1+d.roll(5))), wholeWord(v, impl.Grid{}),
			editWord(v, right[0]), editWord(v, wrong[d.roll(len(wrong))]),
			impl.Word{Kind: d.roll(9) - 3, To: 1, Ver: v, Grid: g, Edit: right[0], Lights: []int{1, 2, 3}})
	}
	return words
}

// somePainters is those that have the scene of a grid, of some versions, one that has nothing, and one that is down.
func somePainters(g impl.Grid) []impl.Painter {
	all := []impl.Painter{empty(), {}}
	s := handScene(g)
	for _, ver := range []int{0, 30, verMost - 1, verMost} {
		all = append(all, impl.Painter{Up: true, Has: true, Ver: ver, Scene: s})
	}
	return all
}

// eachHearing tells some painters of each grid, each with words of each kind.
func eachHearing(t *testing.T, d *dice, grids []impl.Grid, tell func(p impl.Painter, w impl.Word)) {
	t.Helper()
	for _, g := range grids {
		for _, p := range somePainters(g) {
			if !impl.PaintOk(p) {
				t.Fatalf("not ok: %v", p)
			}
			for _, w := range rolledWords(d, g, p.Ver) {
				tell(p, w)
			}
		}
	}
}

// hearGrids is some of paintGrids, as many words are heard in each.
func hearGrids(t *testing.T) []impl.Grid {
	return slices.Concat(allGrids(1, 1)[:8], roundGrids(t), gridsOf(67, 1, ".#/\\xz:159"))
}

func TestPromise67WhatIsHeard(t *testing.T) {
	wholes, edits, stays := 0, 0, 0
	eachHearing(t, &dice{67}, hearGrids(t), func(p impl.Painter, w impl.Word) {
		x := mustHear(t, p, w)
		if want := handHear(p, w); !samePainter(x, want) {
			t.Fatalf("%v hears %v, and is %v, by hand %v", p, w, x, want)
		}
		if x.Ver < p.Ver || x.Up != p.Up || p.Has && !x.Has {
			t.Fatalf("%v hears %v, and is %v", p, w, x)
		}
		if samePainter(x, p) {
			stays++
			return
		}
		var scene impl.Scene
		if w.Kind == impl.WordEdit {
			edits++
			scene, _ = mustEdit(t, p.Scene, w.Edit)
			if x.Ver != p.Ver+1 {
				t.Fatalf("%v hears %v, and is %v", p, w, x)
			}
		} else {
			wholes++
			scene = mustScene(t, w.Grid)
		}
		if !x.Has || x.Ver != w.Ver || !sameScene(x.Scene, scene) {
			t.Fatalf("%v hears %v, and is %v", p, w, x)
		}
	})
	if wholes == 0 || edits == 0 || stays == 0 {
		t.Fatalf("%d wholes, %d edits are heard, %d times it stays", wholes, edits, stays)
	}
}

func TestPromise68TheSameOnceMore(t *testing.T) {
	changed := 0
	eachHearing(t, &dice{68}, hearGrids(t), func(p impl.Painter, w impl.Word) {
		x := mustHear(t, p, w)
		if !samePainter(x, p) {
			changed++
		}
		holdStays(t, "once more", x, w)
		holdStays(t, "down", impl.Painter{}, w)
	})
	if changed == 0 {
		t.Fatal("no word changes a painter")
	}
}

func TestPromise69WhatIsTold(t *testing.T) {
	for _, g := range paintGrids(t) {
		for _, p := range somePainters(g) {
			eachOfPainters(func(id, many int) {
				if !p.Up {
					holdTellsNothing(t, "down", p, id, many)
					return
				}
				w := mustTell(t, p, id, many)
				if want := handTell(p, id, many); !sameWord(w, want) {
					t.Fatalf("%v tells, as %d of %d, %v, by hand %v", p, id, many, w, want)
				}
				if w.To != 0 || w.From != id || w.Ver != p.Ver || !isNoGrid(w.Grid) || w.Edit != (impl.Edit{}) {
					t.Fatalf("%v tells, as %d of %d, %v", p, id, many, w)
				}
				if !p.Has {
					if w.Kind != impl.WordWant || len(w.Lights) != 0 {
						t.Fatalf("%v tells %v", p, w)
					}
					return
				}
				own := impl.PaintOwn(g, id, many)
				if w.Kind != impl.WordPart || len(w.Lights) != len(own) {
					t.Fatalf("%v tells %v", p, w)
				}
				for i, k := range own {
					if w.Lights[i] != impl.TrailLight(g, k) {
						t.Fatalf("%v: told %v, at its sights %v", p, w.Lights, own)
					}
				}
			})
		}
	}
}

// storyOf is the grids of so many versions, each one edit behind the one ahead, and those edits.
func storyOf(d *dice, g impl.Grid, many int) ([]impl.Grid, []impl.Edit) {
	edits := rolledEdits(d, g, many)
	grids := []impl.Grid{g}
	for _, e := range edits {
		grids = append(grids, handPut(grids[len(grids)-1], e))
	}
	return grids, edits
}

// storyWord is a word of a story: the whole of a version, or its edit.
func storyWord(d *dice, grids []impl.Grid, edits []impl.Edit, ver int) impl.Word {
	if ver > 0 && d.roll(3) > 0 {
		return editWord(ver, edits[ver-1])
	}
	return wholeWord(ver, grids[ver])
}

func TestPromise70AsByTheWholeAlone(t *testing.T) {
	d := &dice{70}
	byEdit, last := 0, 0
	for _, g := range paintGrids(t) {
		grids, edits := storyOf(d, g, verMost)
		p, from := empty(), d.roll(20)
		for step := range 40 {
			// Words are lost, doubled, late and out of turn, but come mostly from ahead.
			ver := min(verMost, from+step+d.roll(4))
			if d.roll(4) == 0 {
				ver = d.roll(verMost + 1)
			}
			if p.Has && d.roll(2) == 0 {
				ver = min(verMost, p.Ver+1)
			}
			w := storyWord(d, grids, edits, ver)
			x := mustHear(t, p, w)
			if w.Kind == impl.WordEdit && x.Ver > p.Ver {
				byEdit++
			}
			p = x
			if !p.Has {
				continue
			}
			if alone := mustHear(t, empty(), wholeWord(p.Ver, grids[p.Ver])); !samePainter(p, alone) {
				t.Fatalf("%v: of the version %d it has %v, not %v", g, p.Ver, p, alone)
			}
			if want := handPainter(p.Ver, grids[p.Ver]); !samePainter(p, want) {
				t.Fatalf("%v: of the version %d it has %v, by hand %v", g, p.Ver, p, want)
			}
		}
		last = max(last, p.Ver)
	}
	if byEdit < 100 || last != verMost {
		t.Fatalf("%d edits are heard, the last version is %d", byEdit, last)
	}
}

func TestPromise70AllEditsOneByOne(t *testing.T) {
	d := &dice{170}
	for _, g := range hearGrids(t) {
		grids, edits := storyOf(d, g, verMost)
		p := mustHear(t, empty(), wholeWord(0, g))
		for i, e := range edits {
			p = mustHear(t, p, editWord(i+1, e))
			if want := mustHear(t, empty(), wholeWord(i+1, grids[i+1])); !samePainter(p, want) {
				t.Fatalf("%v: behind %d edits it has %v, not %v", g, i+1, p, want)
			}
		}
	}
}

func TestPromise71WhatIsNotNewer(t *testing.T) {
	d := &dice{71}
	for _, g := range hearGrids(t) {
		s := handScene(g)
		for _, ver := range someVers() {
			p := impl.Painter{Up: true, Has: true, Ver: ver, Scene: s}
			e := rolledEdits(d, g, 1)[0]
			other := rolledGrid(d, 1+d.roll(5), 1+d.roll(5))
			for _, v := range aroundVer(ver) {
				if v <= ver {
					holdStays(t, "a whole that is not newer", p, wholeWord(v, other))
					holdStays(t, "a whole that is not newer", p, wholeWord(v, handPut(g, e)))
				}
				if v != ver+1 {
					holdStays(t, "an edit that is not the next one", p, editWord(v, e))
				}
			}
		}
	}
}

func TestPromise71OfEachTwoVersions(t *testing.T) {
	g, other := mustRead(t, "x5\n"), mustRead(t, "9\n/\n")
	for ver := range verMost + 1 {
		p := handPainter(ver, g)
		for v := -2; v <= verMost+2; v++ {
			byWhole, byEdit := mustHear(t, p, wholeWord(v, other)), mustHear(t, p, editWord(v, edit(1, "#")))
			if newer := v > ver && v <= verMost; samePainter(byWhole, p) == newer || newer && !samePainter(byWhole, handPainter(v, other)) {
				t.Fatalf("%d by the whole of %d is %v", ver, v, byWhole)
			}
			if next := v == ver+1 && v <= verMost; samePainter(byEdit, p) == next || next && !samePainter(byEdit, handPainter(v, mustRead(t, "x#\n"))) {
				t.Fatalf("%d by the edit of %d is %v", ver, v, byEdit)
			}
		}
	}
}

func TestPromise72AllLightsTogether(t *testing.T) {
	for _, g := range paintGrids(t) {
		pic := mustPic(t, g)
		for _, ver := range []int{0, 7, verMost} {
			p := mustHear(t, empty(), wholeWord(ver, g))
			for many := 1; many <= paintMost; many++ {
				told, places := slices.Repeat([]int{-1}, len(pic)), 0
				for id := 1; id <= many; id++ {
					w := mustTell(t, p, id, many)
					for i, light := range w.Lights {
						told[id-1+i*many] = light
						places++
					}
					if w.Ver != ver || w.From != id {
						t.Fatalf("%v: %d of %d tells %v", g, id, many, w)
					}
				}
				if !slices.Equal(told, pic) || places != len(pic) {
					t.Fatalf("%v: %d tell %v, %d numbers, not %v", g, many, told, places, pic)
				}
			}
		}
	}
}
