package tests

import (
	"slices"
	"testing"

	"loop.example/lucarne/impl"
)

// hearing is a painter, and a word that comes to it.
type hearing struct {
	painter impl.Painter
	word    impl.Word
}

// lendPainter is a painter all of whose lists lie amid longer ones.
func lendPainter(to *loan, p impl.Painter) impl.Painter {
	p.Scene = lendScene(to, p.Scene)
	return p
}

// lendWord is a word all of whose lists lie amid longer ones.
func lendWord(to *loan, w impl.Word) impl.Word {
	w.Grid, w.Lights = lendGrid(to, w.Grid), lendInts(to, w.Lights)
	return w
}

func lendHearing(to *loan, h hearing) hearing {
	return hearing{lendPainter(to, h.painter), lendWord(to, h.word)}
}

// paintAnswer is what is answered of a painter and a word.
type paintAnswer struct {
	painter impl.Painter
	word    impl.Word
	sights  []int
	ok      bool
}

func (a paintAnswer) copied() paintAnswer {
	return paintAnswer{copyPainter(a.painter), copyWord(a.word), slices.Clone(a.sights), a.ok}
}

func (a paintAnswer) same(other paintAnswer) bool {
	return a.ok == other.ok && samePainter(a.painter, other.painter) && sameWord(a.word, other.word) && slices.Equal(a.sights, other.sights)
}

// spoil writes over all lists of an answer, spare room included, and fails if two of a scene share any.
func (a paintAnswer) spoil(t *testing.T, g impl.Grid) {
	t.Helper()
	sceneAnswer{scene: a.painter.Scene, sights: a.sights}.spoil(t, g)
	spoil(a.word.Grid)
	spoilAll(a.word.Lights, -9)
}

// paintAsks is all that is asked of a painter and a word.
func paintAsks() map[string]func(hearing) paintAnswer {
	asks := map[string]func(hearing) paintAnswer{
		"PaintOk":            func(h hearing) paintAnswer { return paintAnswer{ok: impl.PaintOk(h.painter)} },
		"PaintHear":          func(h hearing) paintAnswer { return paintAnswer{painter: impl.PaintHear(h.painter, h.word)} },
		"PaintOwn":           func(h hearing) paintAnswer { return paintAnswer{sights: impl.PaintOwn(h.painter.Scene.Grid, 2, 3)} },
		"PaintOwn, alone":    func(h hearing) paintAnswer { return paintAnswer{sights: impl.PaintOwn(h.painter.Scene.Grid, 1, 1)} },
		"PaintOwn, too many": func(h hearing) paintAnswer { return paintAnswer{sights: impl.PaintOwn(h.painter.Scene.Grid, 1, 4)} },
	}
	for name, x := range map[string][2]int{"PaintTell": {2, 3}, "PaintTell, alone": {1, 1}, "PaintTell, no such painter": {3, 2}} {
		asks[name] = func(h hearing) paintAnswer {
			w, ok := impl.PaintTell(h.painter, x[0], x[1])
			return paintAnswer{word: w, ok: ok}
		}
	}
	return asks
}

// memoryWords is words that are heard, and words that are not, with more in them than there must be.
func memoryWords(g impl.Grid) []impl.Word {
	some := impl.Word{Kind: 3, From: 2, Ver: 4, Grid: handPut(g, edit(0, "9")), Edit: edit(len(g.Cells)-1, "#"), Lights: []int{1, 2, 3}}
	var words []impl.Word
	for kind := range 6 {
		for _, ver := range []int{3, 4, 5, 6, verMost + 1} {
			some.Kind, some.Ver = kind, ver
			words = append(words, some)
		}
	}
	some.Kind, some.Ver, some.Grid.Wide = 1, 8, 0
	return append(words, some, editWord(5, edit(-1, ".")), impl.Word{})
}

func TestPaintersAreNewMemory(t *testing.T) {
	grids := slices.Concat(allGrids(1, 1)[:8], roundGrids(t), wholeGrids(), gridsOf(82, 1, ".#/\\xz:159")[:12], []impl.Grid{mustRead(t, "###\n#.#\n###\n")})
	for _, g := range grids {
		asks := paintAsks()
		for i, w := range memoryWords(g) {
			for _, p := range []impl.Painter{handPainter(4, g), empty(), {}} {
				holdNewAnswer(t, "PaintHear", g, hearing{p, w}, lendHearing, asks["PaintHear"])
			}
			if i > 0 {
				continue
			}
			for name, ask := range asks {
				for _, p := range []impl.Painter{handPainter(4, g), empty(), {}} {
					holdNewAnswer(t, name, g, hearing{p, w}, lendHearing, ask)
				}
			}
		}
	}
}

func TestWrongPaintersAreNotWritten(t *testing.T) {
	g := mustRead(t, "x.\n:5\n")
	down := handPainter(4, g)
	down.Up = false
	none := handPainter(4, g)
	none.Has = false
	wrong := []impl.Painter{down, none, handPainter(-1, g), handPainter(verMost+1, g), {Up: true, Ver: 1}}
	for _, s := range wrongScenes(g) {
		wrong = append(wrong, impl.Painter{Up: true, Has: true, Ver: 4, Scene: s})
	}
	for _, p := range wrong {
		holdNotWritten(t, "a wrong painter", p, lendPainter, holdNoPaint)
	}
}

func TestPaintersAreTheSameEveryTime(t *testing.T) {
	d := &dice{83}
	for _, g := range slices.Concat(roundGrids(t), wholeGrids()) {
		p, other := handPainter(4, g), rolledGrid(d, 1+d.roll(5), 1+d.roll(5))
		e := rolledEdits(d, g, 1)[0]
		words := []impl.Word{wholeWord(9, other), editWord(5, e), wholeWord(4, other), editWord(6, e)}
		for _, w := range words {
			want := handHear(p, w)
			for range 20 {
				if x := mustHear(t, p, w); !samePainter(x, want) {
					t.Fatalf("%v hears %v, and is %v, not %v", p, w, x, want)
				}
			}
		}
		for range 20 {
			if w := mustTell(t, p, 2, 3); !sameWord(w, handTell(p, 2, 3)) {
				t.Fatalf("%v tells %v", p, w)
			}
		}
	}
}
