package tests

import (
	"math"
	"slices"
	"testing"

	"loop.example/lucarne/impl"
)

func TestOwnOfWrongGrids(t *testing.T) {
	for why, g := range wrongGrids() {
		for id := -1; id <= paintMost+1; id++ {
			for many := -1; many <= paintMost+1; many++ {
				if own := impl.PaintOwn(g, id, many); len(own) != 0 {
					t.Errorf("%s: %d of %d has %v", why, id, many, own)
				}
			}
		}
	}
}

func TestNoSuchPainter(t *testing.T) {
	for _, g := range slices.Concat(allGrids(1, 1)[:8], wholeGrids(), roundGrids(t)) {
		p := handPainter(5, g)
		for _, x := range noPainters() {
			if own := impl.PaintOwn(g, x[0], x[1]); len(own) != 0 {
				t.Fatalf("%v: %d of %d has %v", g, x[0], x[1], own)
			}
			holdTellsNothing(t, "no such painter", p, x[0], x[1])
			holdTellsNothing(t, "no such painter", empty(), x[0], x[1])
			holdTellsNothing(t, "no such painter, and down", impl.Painter{}, x[0], x[1])
		}
	}
}

func TestDownWithAScene(t *testing.T) {
	for _, g := range paintGrids(t) {
		for _, ver := range []int{0, 1, verMost} {
			p := handPainter(ver, g)
			if !impl.PaintOk(p) {
				t.Fatalf("not ok: %v", p)
			}
			p.Up = false
			holdNoPaint(t, "down with a scene", p)
		}
	}
}

func TestNoneButAVersionOrAScene(t *testing.T) {
	g := mustRead(t, "x.\n:5\n")
	s := handScene(g)
	for _, up := range []bool{true, false} {
		for _, ver := range slices.Concat([]int{1, 30, verMost}, wrongVers()) {
			holdNoPaint(t, "none, but a version", impl.Painter{Up: up, Ver: ver})
		}
		for _, part := range []impl.Scene{
			s, {Grid: g}, {Lights: s.Lights}, {Feet: s.Feet}, {Lights: []int{0}}, {Feet: [][]int{nil}}, {Feet: [][]int{{}}},
			{Grid: impl.Grid{Wide: 1}}, {Grid: impl.Grid{Wide: -1}}, {Grid: impl.Grid{Cells: freeCells(1)}}, {Grid: impl.Grid{Wide: math.MinInt}},
		} {
			holdNoPaint(t, "none, but a scene", impl.Painter{Up: up, Scene: part})
			holdNoPaint(t, "none, but a version and a scene", impl.Painter{Up: up, Ver: 3, Scene: part})
		}
		// Lists without anything in them are nothing, however they are made.
		none := impl.Painter{Up: up, Scene: impl.Scene{Grid: impl.Grid{Cells: []impl.Cell{}}, Lights: []int{}, Feet: [][]int{}}}
		if !impl.PaintOk(none) {
			t.Fatalf("not ok: %v", none)
		}
		holdStays(t, "no word", none, impl.Word{})
	}
}

func TestPaintersOfWrongVersions(t *testing.T) {
	for _, g := range slices.Concat(allGrids(1, 1)[:8], wholeGrids()) {
		for _, ver := range wrongVers() {
			holdNoPaint(t, "a wrong version", handPainter(ver, g))
		}
	}
}

func TestPaintersOfWrongScenes(t *testing.T) {
	for why, g := range wrongGrids() {
		holdNoPaint(t, why, impl.Painter{Up: true, Has: true, Scene: impl.Scene{Grid: g}})
		holdNoPaint(t, why, impl.Painter{Up: true, Has: true, Ver: 3, Scene: impl.Scene{Grid: g, Lights: make([]int, 4), Feet: slices.Repeat([][]int{{0}}, 4)}})
	}
	for _, text := range []string{"5\n", "x.\n:5\n", "/\\..\\\n\\x.1.\n..9..\n#..z.\n\\.:./\n"} {
		p := handPainter(7, mustRead(t, text))
		for why, wrong := range wrongChanges() {
			for k := range p.Scene.Lights {
				x := copyPainter(p)
				if wrong(&x.Scene, k) {
					holdNoPaint(t, why, x)
				}
			}
		}
	}
	holdNoPaint(t, "it has a scene that is nothing", impl.Painter{Up: true, Has: true})
	holdNoPaint(t, "down, it has a scene that is nothing", impl.Painter{Has: true})
}

func TestWordsThatAreNotHeard(t *testing.T) {
	g, other := mustRead(t, "x5\n"), mustRead(t, "9\n/\n")
	for _, kind := range []int{0, 3, 4, 5, -1, -2, 257, 258, 1<<32 + 1, 1<<32 + 2, math.MinInt, math.MaxInt} {
		for _, p := range []impl.Painter{empty(), {}, handPainter(0, g), handPainter(4, g), handPainter(verMost, g)} {
			for _, ver := range aroundVer(p.Ver) {
				w := impl.Word{Kind: kind, To: 1, Ver: ver, Grid: other, Edit: edit(1, "#"), Lights: []int{0, 0}}
				holdStays(t, "a kind that is not heard", p, w)
				w.To, w.From = 0, 1
				holdStays(t, "a kind that is not heard", p, w)
			}
		}
	}
	for _, p := range []impl.Painter{empty(), {}, handPainter(0, g)} {
		holdStays(t, "nothing", p, impl.Word{})
	}
}

func TestWholesOfWrongGrids(t *testing.T) {
	for why, g := range wrongGrids() {
		for _, p := range []impl.Painter{empty(), handPainter(0, mustRead(t, "x5\n")), {}} {
			for _, ver := range []int{0, 1, 2, verMost} {
				holdStays(t, why, p, wholeWord(ver, g))
			}
		}
	}
}

func TestEditsThatCannotBeDone(t *testing.T) {
	for _, g := range slices.Concat(allGrids(1, 1)[:8], roundGrids(t), wholeGrids()) {
		for _, ver := range []int{0, verMost - 1} {
			p := handPainter(ver, g)
			for _, e := range wrongEdits(g) {
				holdStays(t, "an edit that cannot be done", p, editWord(ver+1, e))
			}
		}
	}
}

func TestDownHearsAndTellsNothing(t *testing.T) {
	for _, g := range paintGrids(t) {
		for _, ver := range someVers() {
			holdStays(t, "down", impl.Painter{}, wholeWord(ver, g))
			holdStays(t, "down", impl.Painter{}, editWord(ver, edit(0, "5")))
		}
	}
	for many := -1; many <= paintMost+1; many++ {
		for id := -1; id <= paintMost+1; id++ {
			holdTellsNothing(t, "down", impl.Painter{}, id, many)
		}
	}
}
