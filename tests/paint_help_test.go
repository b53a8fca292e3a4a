package tests

import (
	"math"
	"slices"
	"strconv"
	"strings"
	"testing"

	"loop.example/lucarne/impl"
)

// How many painters there may be, and the last version, as the document has them.
const (
	paintMost = 3
	verMost   = 60
)

func samePainter(a, b impl.Painter) bool {
	return a.Up == b.Up && a.Has == b.Has && a.Ver == b.Ver && sameScene(a.Scene, b.Scene)
}

func isNoPainter(p impl.Painter) bool {
	return samePainter(p, impl.Painter{})
}

// copyPainter is a painter that shares nothing with this one.
func copyPainter(p impl.Painter) impl.Painter {
	return impl.Painter{Up: p.Up, Has: p.Has, Ver: p.Ver, Scene: copyScene(p.Scene)}
}

func sameWord(a, b impl.Word) bool {
	return a.Kind == b.Kind && a.To == b.To && a.From == b.From && a.Ver == b.Ver && sameGrid(a.Grid, b.Grid) && a.Edit == b.Edit && slices.Equal(a.Lights, b.Lights)
}

func isNoWord(w impl.Word) bool {
	return sameWord(w, impl.Word{})
}

// copyWord is a word that shares nothing with this one.
func copyWord(w impl.Word) impl.Word {
	w.Grid, w.Lights = copyGrid(w.Grid), slices.Clone(w.Lights)
	return w
}

// wholeWord is the whole grid of a version.
func wholeWord(ver int, g impl.Grid) impl.Word {
	return impl.Word{Kind: 1, To: 1, Ver: ver, Grid: g}
}

// editWord is the edit that makes a version.
func editWord(ver int, e impl.Edit) impl.Word {
	return impl.Word{Kind: 2, To: 1, Ver: ver, Edit: e}
}

// empty is a painter that is up, and has nothing.
func empty() impl.Painter {
	return impl.Painter{Up: true}
}

// handPainter is a painter that has the scene of an ok grid, without the program's help.
func handPainter(ver int, g impl.Grid) impl.Painter {
	return impl.Painter{Up: true, Has: true, Ver: ver, Scene: handScene(g)}
}

// handOwn is the sights of a painter of so many, without the program's help.
func handOwn(g impl.Grid, id, many int) []int {
	var own []int
	for k := range handSights(g) {
		if k%many == id-1 {
			own = append(own, k)
		}
	}
	return own
}

// handGridOk says whether a grid is ok, without the program's help.
func handGridOk(g impl.Grid) bool {
	if g.Wide < 1 || g.Wide > 5 || len(g.Cells) == 0 || len(g.Cells)%g.Wide != 0 || len(g.Cells)/g.Wide > 5 {
		return false
	}
	return !slices.ContainsFunc(g.Cells, func(c impl.Cell) bool {
		_, ok := handSign(c)
		return !ok
	})
}

// handCan says whether an edit can be done in an ok grid, without the program's help.
func handCan(g impl.Grid, e impl.Edit) bool {
	_, ok := handSign(e.Cell)
	return ok && e.At >= 0 && e.At < len(g.Cells)
}

// handHear is what an ok painter becomes by a word, without the program's help.
func handHear(p impl.Painter, w impl.Word) impl.Painter {
	if !p.Up || w.Ver < 0 || w.Ver > verMost {
		return p
	}
	if w.Kind == 1 && handGridOk(w.Grid) && (!p.Has || p.Ver < w.Ver) {
		return handPainter(w.Ver, w.Grid)
	}
	if w.Kind == 2 && p.Has && p.Ver == w.Ver-1 && handCan(p.Scene.Grid, w.Edit) {
		return handPainter(w.Ver, handPut(p.Scene.Grid, w.Edit))
	}
	return p
}

// handTell is what an ok painter that is up tells, without the program's help.
func handTell(p impl.Painter, id, many int) impl.Word {
	if !p.Has {
		return impl.Word{Kind: 4, From: id}
	}
	w := impl.Word{Kind: 3, From: id, Ver: p.Ver}
	for _, k := range handOwn(p.Scene.Grid, id, many) {
		w.Lights = append(w.Lights, p.Scene.Lights[k])
	}
	return w
}

// paintGrids is those of one cell, those at the edges, those in which light goes round, and one of each size with each kind of cell.
func paintGrids(t *testing.T) []impl.Grid {
	return slices.Concat(allGrids(1, 1), roundGrids(t), wholeGrids(), gridsOf(66, 1, ".#/\\xz:159"))
}

// someVers is versions that may be: the first ones, one amid them, the last ones.
func someVers() []int {
	return []int{0, 1, 2, 30, verMost - 1, verMost}
}

// wrongVers is versions that may not be.
func wrongVers() []int {
	return []int{-1, verMost + 1, verMost + 2, 256, -256, 1 << 32, math.MinInt, math.MaxInt}
}

// noPainters is a number of a painter, and how many there are, where there is no such painter, or not so many.
func noPainters() [][2]int {
	all := [][2]int{{1, -1}, {-1, -1}, {0, math.MinInt}, {1, math.MinInt}, {1, math.MaxInt}, {math.MaxInt, math.MaxInt}, {1, 1 << 32}, {1, 257}, {257, 257}}
	for many := range paintMost + 1 {
		all = append(all, [2]int{0, many}, [2]int{-1, many}, [2]int{many + 1, many}, [2]int{math.MinInt, many}, [2]int{math.MaxInt, many}, [2]int{256 + 1, many}, [2]int{1<<32 + 1, many})
	}
	for id := range paintMost + 3 {
		all = append(all, [2]int{id, paintMost + 1}, [2]int{id, paintMost + 2})
	}
	return all
}

// eachOfPainters tells each number of painters, and each painter of so many.
func eachOfPainters(tell func(id, many int)) {
	for many := 1; many <= paintMost; many++ {
		for id := 1; id <= many; id++ {
			tell(id, many)
		}
	}
}

// mustHear is a painter behind words, one behind the other, which must be ok at each moment.
func mustHear(t *testing.T, p impl.Painter, words ...impl.Word) impl.Painter {
	t.Helper()
	for _, w := range words {
		x := impl.PaintHear(p, w)
		if !impl.PaintOk(x) {
			t.Fatalf("%v hears %v, and is %v", p, w, x)
		}
		p = x
	}
	return p
}

// holdStays fails unless a painter stays as it is by a word.
func holdStays(t *testing.T, why string, p impl.Painter, w impl.Word) {
	t.Helper()
	if x := mustHear(t, p, w); !samePainter(x, p) {
		t.Fatalf("%s: %v hears %s, and is %v", why, p, short(w), x)
	}
}

// mustTell is what a painter tells, which must be something.
func mustTell(t *testing.T, p impl.Painter, id, many int) impl.Word {
	t.Helper()
	w, ok := impl.PaintTell(p, id, many)
	if !ok {
		t.Fatalf("%v: PaintTell as %d of %d is %v, %v", p, id, many, w, ok)
	}
	return w
}

// holdTellsNothing fails unless nothing is told.
func holdTellsNothing(t *testing.T, why string, p impl.Painter, id, many int) {
	t.Helper()
	if w, ok := impl.PaintTell(p, id, many); ok || !isNoWord(w) {
		t.Fatalf("%s: %s: PaintTell as %d of %d is %v, %v", why, short(p), id, many, w, ok)
	}
}

// holdNoPaint fails unless a painter is not ok, whatever is asked of it.
func holdNoPaint(t *testing.T, why string, p impl.Painter) {
	t.Helper()
	if impl.PaintOk(p) {
		t.Fatalf("%s: ok: %s", why, short(p))
	}
	g := impl.Grid{Wide: 1, Cells: []impl.Cell{{Kind: 7, Light: 5}}}
	for _, w := range []impl.Word{{}, wholeWord(verMost, g), wholeWord(p.Ver, g), editWord(p.Ver+1, edit(0, "5")), editWord(1, edit(0, "5")), {Kind: 3, From: 1}, {Kind: 4, From: 1}} {
		if x := impl.PaintHear(p, w); !isNoPainter(x) {
			t.Fatalf("%s: %s hears %v, and is %v", why, short(p), w, x)
		}
	}
	eachOfPainters(func(id, many int) {
		holdTellsNothing(t, why, p, id, many)
	})
}

// lightsText is numbers with blanks between.
func lightsText(list []int) string {
	var words []string
	for _, n := range list {
		words = append(words, strconv.Itoa(n))
	}
	return strings.Join(words, " ")
}

// holdPainter fails unless a painter has this version's scene, of this grid, made without the program's help, and is ok.
func holdPainter(t *testing.T, p impl.Painter, ver int, grid string) {
	t.Helper()
	if !p.Up || !p.Has || p.Ver != ver || handText(t, p.Scene.Grid) != grid {
		t.Fatalf("the painter is %v, not of %d, %q", p, ver, grid)
	}
	if !sameScene(p.Scene, handScene(p.Scene.Grid)) || !impl.PaintOk(p) {
		t.Fatalf("%v is not that of its grid", p)
	}
}
