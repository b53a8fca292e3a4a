package tests

import (
	"math"
	"slices"
	"testing"

	"loop.example/lucarne/impl"
)

// holdNotPlayed fails unless nothing is played, and nothing is answered beside that.
func holdNotPlayed(t *testing.T, why string, g impl.Grid, many int, events []impl.Event) {
	t.Helper()
	if w, ok := impl.WorldPlay(g, many, events); ok || !isNoWorld(w) {
		t.Fatalf("%s: %s, %d painters: WorldPlay is %s, %v", why, short(g), many, short(w), ok)
	}
}

// holdNotNew fails unless there is no such world.
func holdNotNew(t *testing.T, why string, g impl.Grid, many int) {
	t.Helper()
	if w, ok := impl.WorldNew(g, many); ok || !isNoWorld(w) {
		t.Fatalf("%s: %s, %d painters: WorldNew is %s, %v", why, short(g), many, short(w), ok)
	}
	for _, events := range [][]impl.Event{nil, {{}}, {tells(1), brings(0)}, {editEvent(edit(0, "."))}, make([]impl.Event, playMost), make([]impl.Event, playMost+1)} {
		holdNotPlayed(t, why, g, many, events)
	}
}

func TestWorldsOfWrongGrids(t *testing.T) {
	for why, g := range wrongGrids() {
		for many := -1; many <= paintMost+1; many++ {
			holdNotNew(t, why, g, many)
		}
		for many := 1; many <= paintMost; many++ {
			holdNoWorld(t, why, impl.World{Keeper: impl.Keeper{First: g, Parts: make([]impl.Part, many)}, Painters: make([]impl.Painter, many)})
		}
	}
	holdNoWorld(t, "nothing", impl.World{})
}

func TestWorldsOfWrongPainters(t *testing.T) {
	for _, g := range slices.Concat(allGrids(1, 1)[:8], wholeGrids(), roundGrids(t)) {
		for _, many := range []int{0, paintMost + 1, -1, -paintMost, 256 + 1, 1<<32 + 1, math.MinInt, math.MaxInt} {
			holdNotNew(t, "not so many painters", g, many)
		}
		for _, many := range []int{0, paintMost + 1, 100000} {
			holdNoWorld(t, "not so many painters", impl.World{Keeper: impl.Keeper{First: g, Parts: make([]impl.Part, many)}, Painters: make([]impl.Painter, many)})
		}
	}
}

// rightWorld is a world of three painters, with words of each kind under way; each version has another picture at each painter's sights.
func rightWorld(t *testing.T) impl.World {
	t.Helper()
	edits := []impl.Edit{edit(3, "9"), edit(3, "1"), edit(3, "8"), edit(3, "2"), edit(3, "7"), edit(3, "3")}
	return mustReadWorld(t, mustRead(t, "./\n:5\n"), edits, "1 3 5 | 1 3 5 | 1 3 5 | w1:2 e2:4 p3:5 ?1 w3:0 e1:1")
}

func TestWorldsOfWrongKeepers(t *testing.T) {
	for _, changes := range []map[string]keepChange{wrongParts(), wrongShown()} {
		for why, change := range changes {
			for at := range 3 {
				w := rightWorld(t)
				change(&w.Keeper, at)
				holdNoWorld(t, why, w)
				// The same without words, and with painters that have nothing.
				w.Nets, w.Painters = nil, []impl.Painter{empty(), {}, empty()}
				holdNoWorld(t, why, w)
			}
		}
	}
	w := rightWorld(t)
	w.Keeper.Edits = append(w.Keeper.Edits, edit(4, "."))
	holdNoWorld(t, "an edit that cannot be done", w)
	w = rightWorld(t)
	w.Keeper.Edits = slices.Concat(w.Keeper.Edits, rolledEdits(&dice{102}, w.Keeper.First, verMost-5))
	holdNoWorld(t, "more than VerMax edits", w)
	w.Keeper.Edits = w.Keeper.Edits[:verMost]
	if !impl.WorldOk(w) {
		t.Fatalf("with VerMax edits not ok: %v", w)
	}
	w = rightWorld(t)
	w.Keeper = impl.Keeper{}
	holdNoWorld(t, "no keeper", w)
}

func TestOtherPaintersThanParts(t *testing.T) {
	w := rightWorld(t)
	for why, painters := range map[string][]impl.Painter{
		"none":         nil,
		"one less":     w.Painters[:2],
		"one more":     append(slices.Clone(w.Painters), empty()),
		"one more, 3":  append(slices.Clone(w.Painters), w.Painters[2]),
		"far too many": make([]impl.Painter, 100000),
	} {
		x := copyWorld(w)
		x.Painters = painters
		holdNoWorld(t, why, x)
		x.Nets = nil
		holdNoWorld(t, why, x)
	}
	for many := 1; many <= paintMost; many++ {
		for parts := 1; parts <= paintMost; parts++ {
			x := impl.World{Keeper: mustKeep(t, lampGrid(t), parts), Painters: slices.Repeat([]impl.Painter{empty()}, many)}
			if impl.WorldOk(x) != (many == parts) {
				t.Fatalf("%d painters, %d parts: ok is %v", many, parts, many != parts)
			}
		}
	}
}

// painterChange makes a painter wrong that has the version 3 of rightWorld.
type painterChange func(w impl.World, p *impl.Painter)

func wrongPainterChanges() map[string]painterChange {
	return map[string]painterChange{
		"down, with a scene":       func(_ impl.World, p *impl.Painter) { p.Up = false },
		"has none, with a scene":   func(_ impl.World, p *impl.Painter) { p.Has = false },
		"has none, of the first":   func(_ impl.World, p *impl.Painter) { p.Has, p.Ver = false, 0 },
		"has none, with a version": func(_ impl.World, p *impl.Painter) { *p = impl.Painter{Up: true, Ver: 1} },
		"down, with a version":     func(_ impl.World, p *impl.Painter) { *p = impl.Painter{Ver: 1} },
		"down, with lights":        func(_ impl.World, p *impl.Painter) { *p = impl.Painter{Scene: impl.Scene{Lights: []int{0}}} },
		"has nothing":              func(_ impl.World, p *impl.Painter) { *p = impl.Painter{Up: true, Has: true} },
		"of another version":       func(_ impl.World, p *impl.Painter) { p.Ver = 2 },
		"of the first":             func(_ impl.World, p *impl.Painter) { p.Ver = 0 },
		"of the newest":            func(_ impl.World, p *impl.Painter) { p.Ver = 6 },
		"one more than the newest": func(_ impl.World, p *impl.Painter) { p.Ver = 7 },
		"below the first":          func(_ impl.World, p *impl.Painter) { p.Ver = -1 },
		"of VerMax":                func(_ impl.World, p *impl.Painter) { p.Ver = verMost },
		"the least version":        func(_ impl.World, p *impl.Painter) { p.Ver = math.MinInt },
		"the most version":         func(_ impl.World, p *impl.Painter) { p.Ver = math.MaxInt },
		"another version's scene":  func(w impl.World, p *impl.Painter) { p.Scene = handScene(handGridOf(w.Keeper, 4)) },
		"the newest one's scene":   func(w impl.World, p *impl.Painter) { p.Scene = handScene(handGridOf(w.Keeper, 6)) },
		"no version's scene": func(w impl.World, p *impl.Painter) {
			p.Scene = handScene(handPut(handGridOf(w.Keeper, 3), edit(0, "#")))
		},
		"a turned grid's scene": func(w impl.World, p *impl.Painter) { p.Scene = handScene(impl.GridTurn(handGridOf(w.Keeper, 3))) },
		"as many cells in a row": func(w impl.World, p *impl.Painter) {
			p.Scene = handScene(impl.Grid{Wide: 4, Cells: p.Scene.Grid.Cells})
		},
		"a row more": func(w impl.World, p *impl.Painter) { p.Scene = handScene(withRow(p.Scene.Grid)) },
	}
}

// withRow is a grid with a row of free cells more.
func withRow(g impl.Grid) impl.Grid {
	return impl.Grid{Wide: g.Wide, Cells: slices.Concat(g.Cells, freeCells(g.Wide))}
}

func TestWorldsOfPaintersThatAreNotOk(t *testing.T) {
	for why, change := range wrongPainterChanges() {
		for at := range 3 {
			w := rightWorld(t)
			w.Painters[at] = handPainter(3, handGridOf(w.Keeper, 3))
			if !impl.WorldOk(w) {
				t.Fatalf("not ok: %v", w)
			}
			change(w, &w.Painters[at])
			holdNoWorld(t, why, w)
			w.Nets = nil
			holdNoWorld(t, why, w)
		}
	}
	for _, s := range wrongScenes(handGridOf(rightWorld(t).Keeper, 3)) {
		w := rightWorld(t)
		w.Painters[1].Scene = s
		holdNoWorld(t, "a scene that is not ok", w)
	}
}

func TestAPainterOfTheSameGridOfAnotherVersion(t *testing.T) {
	// Two versions may have the same grid: then the scene is of either.
	g := lampGrid(t)
	edits := []impl.Edit{edit(3, "9"), edit(3, "5"), edit(3, "5")}
	w := mustReadWorld(t, g, edits, "0 2 | 0 2 3 | 0 3 | w1:2 p2:3")
	w.Painters[0].Ver, w.Painters[1].Ver = 3, 0
	w.Nets[0].Ver, w.Nets[1].Ver = 0, 2
	if !impl.WorldOk(w) {
		t.Fatalf("not ok: %v", w)
	}
	w.Painters[0].Ver = 1
	holdNoWorld(t, "of the version between", w)
}

func TestMoreWordsThanNetMax(t *testing.T) {
	g, edits := lampGrid(t), lampEdits()
	for _, word := range []string{"w1:4", "e2:1", "p1:0", "?2"} {
		w := readWorld(t, g, edits, "0 - | 0 | 0 + | "+word)
		one := w.Nets[0]
		for many := range netMost + 1 {
			w.Nets = slices.Repeat([]impl.Word{one}, many)
			if !impl.WorldOk(w) {
				t.Fatalf("%d words %s: not ok", many, word)
			}
		}
		for _, many := range []int{netMost + 1, netMost + 2, 100000} {
			w.Nets = slices.Repeat([]impl.Word{one}, many)
			holdNoWorld(t, "more than NetMax words", w)
		}
	}
}

// wordChange makes a word that is true another one that is not, of a world with versions up to 4, and two painters.
type wordChange func(w *impl.Word)

// wrongOfEach is changes by which no word is true any more.
func wrongOfEach() map[string]wordChange {
	return map[string]wordChange{
		"no kind":              func(w *impl.Word) { w.Kind = 0 },
		"a kind below all":     func(w *impl.Word) { w.Kind = -1 },
		"a kind above all":     func(w *impl.Word) { w.Kind = 5 },
		"its kind as a byte":   func(w *impl.Word) { w.Kind += 256 },
		"its kind in 32 bits":  func(w *impl.Word) { w.Kind += 1 << 32 },
		"another kind":         func(w *impl.Word) { w.Kind = w.Kind%4 + 1 },
		"the other way about":  func(w *impl.Word) { w.To, w.From = w.From, w.To },
		"from and to the same": func(w *impl.Word) { w.To, w.From = w.To+w.From, w.To+w.From },
		"from and to nobody":   func(w *impl.Word) { w.To, w.From = 0, 0 },
		"one too many":         func(w *impl.Word) { w.To, w.From = 3*sign(w.To), 3*sign(w.From) },
		"below 0":              func(w *impl.Word) { w.To, w.From = -w.To, -w.From },
		"the least painter":    func(w *impl.Word) { w.To, w.From = math.MinInt*sign(w.To), math.MinInt*sign(w.From) },
		"the most painter":     func(w *impl.Word) { w.To, w.From = math.MaxInt*sign(w.To), math.MaxInt*sign(w.From) },
		"more than newest":     func(w *impl.Word) { w.Ver = 5 },
		"below the first":      func(w *impl.Word) { w.Ver = -1 },
		"VerMax":               func(w *impl.Word) { w.Ver = verMost },
		"the least version":    func(w *impl.Word) { w.Ver = math.MinInt },
		"the most version":     func(w *impl.Word) { w.Ver = math.MaxInt },
		"another version":      func(w *impl.Word) { w.Ver = w.Ver%4 + 1 },
		"a light more":         func(w *impl.Word) { w.Lights = append(w.Lights, 0) },
		"far too many lights":  func(w *impl.Word) { w.Lights = make([]int, 100000) },
		"in a row":             func(w *impl.Word) { w.Grid.Wide++ },
		"a cell more":          func(w *impl.Word) { w.Grid.Cells = append(w.Grid.Cells, impl.Cell{}) },
		"a grid of one cell":   func(w *impl.Word) { w.Grid = impl.Grid{Wide: 1, Cells: freeCells(1)} },
		"far too many cells":   func(w *impl.Word) { w.Grid.Cells = freeCells(100000) },
		"another place":        func(w *impl.Word) { w.Edit.At++ },
		"another kind of cell": func(w *impl.Word) { w.Edit.Cell.Kind-- },
		"another light":        func(w *impl.Word) { w.Edit.Cell.Light++ },
		"nothing":              func(w *impl.Word) { *w = impl.Word{} },
	}
}

// sign is 1, if a number is not 0.
func sign(n int) int {
	if n == 0 {
		return 0
	}
	return 1
}

// wrongOfKind is changes by which a word of a kind is not true any more; words of other kinds have no such part.
func wrongOfKind() map[int]map[string]wordChange {
	return map[int]map[string]wordChange{
		1: {
			"from a painter":    func(w *impl.Word) { w.From = 1 },
			"from below 0":      func(w *impl.Word) { w.From = -1 },
			"the first version": func(w *impl.Word) { w.Ver = 0 },
			"no grid":           func(w *impl.Word) { w.Grid = impl.Grid{} },
			"another cell":      func(w *impl.Word) { w.Grid.Cells[0] = impl.Cell{Kind: impl.CellWall} },
			"another lamp":      func(w *impl.Word) { w.Grid.Cells[3].Light-- },
			"a wrong cell":      func(w *impl.Word) { w.Grid.Cells[3].Light = 10 },
			"a cell less":       func(w *impl.Word) { w.Grid.Cells = w.Grid.Cells[:3] },
			"one row":           func(w *impl.Word) { w.Grid.Wide = 4 },
			"an edit":           func(w *impl.Word) { w.Edit = edit(0, "#") },
			"its own edit":      func(w *impl.Word) { w.Edit = edit(3, "9") },
			"its lights":        func(w *impl.Word) { w.Lights = handPic(w.Grid) },
			"a dark light":      func(w *impl.Word) { w.Lights = []int{0} },
		},
		2: {
			"from a painter":    func(w *impl.Word) { w.From = 1 },
			"from below 0":      func(w *impl.Word) { w.From = -1 },
			"the first version": func(w *impl.Word) { w.Ver = 0 },
			"no edit":           func(w *impl.Word) { w.Edit = impl.Edit{} },
			"darker":            func(w *impl.Word) { w.Edit.Cell.Light-- },
			"a place less":      func(w *impl.Word) { w.Edit.At-- },
			"no place":          func(w *impl.Word) { w.Edit.At = -1 },
			"a free cell":       func(w *impl.Word) { w.Edit.Cell = impl.Cell{} },
			"a wrong cell":      func(w *impl.Word) { w.Edit.Cell.Kind = 8 },
			"another one's":     func(w *impl.Word) { w.Edit = edit(3, "2") },
			"a dark light":      func(w *impl.Word) { w.Lights = []int{0} },
		},
		3: {
			"to a painter":      func(w *impl.Word) { w.To = w.From },
			"to another one":    func(w *impl.Word) { w.To = 3 - w.From },
			"to below 0":        func(w *impl.Word) { w.To = -1 },
			"from the other":    func(w *impl.Word) { w.From = 3 - w.From },
			"the first version": func(w *impl.Word) { w.Ver = 0 },
			"brighter":          func(w *impl.Word) { w.Lights[0]++ },
			"the last darker":   func(w *impl.Word) { w.Lights[3]-- },
			"a light less":      func(w *impl.Word) { w.Lights = w.Lights[:3] },
			"the first missing": func(w *impl.Word) { w.Lights = w.Lights[1:] },
			"no lights":         func(w *impl.Word) { w.Lights = nil },
			"of nobody, none":   func(w *impl.Word) { w.From, w.Lights = 0, nil },
			"of one more, none": func(w *impl.Word) { w.From, w.Lights = 3, nil },
			"other order":       func(w *impl.Word) { slices.Reverse(w.Lights) },
			"an edit":           func(w *impl.Word) { w.Edit = edit(3, "9") },
		},
		4: {
			"to a painter":   func(w *impl.Word) { w.To = w.From },
			"to another one": func(w *impl.Word) { w.To = 3 - w.From },
			"to below 0":     func(w *impl.Word) { w.To = -1 },
			"a version":      func(w *impl.Word) { w.Ver = 1 },
			"the newest":     func(w *impl.Word) { w.Ver = 4 },
			"some lights":    func(w *impl.Word) { w.Lights = make([]int, 4) },
			"an edit":        func(w *impl.Word) { w.Edit = edit(3, "9") },
		},
	}
}

// holdNotTrue fails unless a world of such a word, changed, is not ok, wherever the word is.
func holdNotTrue(t *testing.T, why, word string, change wordChange) {
	t.Helper()
	for _, ahead := range []string{"", "w2:4 ?1 ", "?1 p2:0 e1:3 w1:0 e2:2 ?2 p1:4 w2:2 e1:1 "} {
		w := mustReadWorld(t, lampGrid(t), lampEdits(), "0 - | 0 | 0 4 | "+ahead+word)
		last := len(w.Nets) - 1
		change(&w.Nets[last])
		holdNoWorld(t, why+", "+word, w)
		if last > 0 {
			slices.Reverse(w.Nets)
			holdNoWorld(t, why+", "+word+", the first", w)
		}
	}
}

func TestWordsThatAreNotTrue(t *testing.T) {
	for kind, words := range map[int][]string{1: {"w1:1", "w2:3", "w2:4"}, 2: {"e1:1", "e2:3", "e2:2"}, 3: {"p1:1", "p2:3", "p2:4"}, 4: {"?1", "?2"}} {
		for _, word := range words {
			for why, change := range wrongOfEach() {
				holdNotTrue(t, why, word, change)
			}
			for why, change := range wrongOfKind()[kind] {
				holdNotTrue(t, why, word, change)
			}
		}
	}
}

func TestWordsThatAreTrue(t *testing.T) {
	// Each version that there is, to and from each painter; whether it is late, or was told already, is no matter.
	for newest := range 5 {
		for many := 1; many <= paintMost; many++ {
			for id := 1; id <= many+1; id++ {
				for ver := range newest + 1 {
					for _, kind := range []string{"w", "e", "p"} {
						if kind == "e" && ver == 0 || kind == "p" && id > many {
							continue
						}
						w := mustReadWorld(t, lampGrid(t), lampEdits()[:newest], strokes(many)+" |  | "+strokes(many)+" | ")
						w.Nets = []impl.Word{readWord(t, w.Keeper, kind+verText(true, id)+":"+verText(true, ver))}
						if impl.WorldOk(w) != (id <= many) {
							t.Fatalf("of %d painters, with %d versions, ok is not %v: %s", many, newest, id <= many, worldText(w))
						}
					}
				}
			}
		}
	}
}

// strokes is so many strokes, a blank between.
func strokes(many int) string {
	return []string{"", "-", "- -", "- - -"}[many]
}

func TestAnEditOfTheFirstVersion(t *testing.T) {
	// No edit makes the version 0, though there is one that looks like it.
	g := mustRead(t, "..\n..\n")
	w := mustReadWorld(t, g, []impl.Edit{{}}, "- |  | + | e1:1")
	w.Nets[0].Ver = 0
	holdNoWorld(t, "an edit of the version 0", w)
	w.Keeper.Edits = nil
	holdNoWorld(t, "an edit of the version 0, without edits", w)
	w.Nets[0].Ver = 1
	holdNoWorld(t, "an edit of the version 1, without edits", w)
}

func TestEditsThatCannotBeInAWorld(t *testing.T) {
	for _, g := range slices.Concat(allGrids(1, 1)[:8], roundGrids(t)[:5], gridsOf(103, 1, ".#/\\xz:159")[5:15]) {
		for _, text := range []string{"- |  | + | ", "0 - | 0 | 0 + | w2:1 p1:0", "1 0 - |  | - 0 1 | e1:1"} {
			w := mustReadWorld(t, g, []impl.Edit{edit(0, "5")}, text)
			for _, e := range wrongEdits(g) {
				holdWorldStays(t, "an edit that cannot be done", w, editEvent(e))
			}
		}
		var events []impl.Event
		for _, e := range wrongEdits(g) {
			events = append(events, editEvent(e))
		}
		if w := mustPlay(t, g, 2, events[:min(len(events), playMost)]); !sameWorld(w, handNew(g, 2)) {
			t.Fatalf("%v: behind edits that cannot be done it is %v", g, w)
		}
	}
}

func TestEmptyListsInAWorldAreNothing(t *testing.T) {
	g := lampGrid(t)
	w := mustReadWorld(t, g, lampEdits(), "0 - | 0 | + - | w1:0 e1:1 p1:0 ?1")
	for i := range w.Nets {
		if w.Nets[i].Lights == nil {
			w.Nets[i].Lights = []int{}
		}
		if w.Nets[i].Grid.Cells == nil {
			w.Nets[i].Grid.Cells = []impl.Cell{}
		}
	}
	for i := range w.Painters {
		w.Painters[i].Scene = impl.Scene{Grid: impl.Grid{Cells: []impl.Cell{}}, Lights: []int{}, Feet: [][]int{}}
	}
	if !impl.WorldOk(w) {
		t.Fatalf("not ok: %v", w)
	}
	holdWorldStays(t, "no kind", w, impl.Event{})
	w = mustWorld(t, g, 2)
	w.Nets = []impl.Word{}
	if !impl.WorldOk(w) || !sameWorld(mustCalm(t, w, 0), mustWorld(t, g, 2)) {
		t.Fatalf("not ok: %v", w)
	}
}
