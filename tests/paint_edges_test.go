package tests

import (
	"slices"
	"testing"

	"loop.example/lucarne/impl"
)

func TestPaintNames(t *testing.T) {
	if impl.PaintMax != 3 || impl.VerMax != 60 || impl.WordWhole != 1 || impl.WordEdit != 2 || impl.WordPart != 3 || impl.WordWant != 4 {
		t.Fatal("limits, or kinds of words, are other ones")
	}
}

// holdOwn fails unless these are the sights of a painter.
func holdOwn(t *testing.T, grid string, id, many int, want ...int) {
	t.Helper()
	if own := impl.PaintOwn(mustRead(t, grid), id, many); !slices.Equal(own, want) {
		t.Fatalf("%q: %d of %d has %v, not %v", grid, id, many, own, want)
	}
}

func TestOwnByHand(t *testing.T) {
	// The first painter has the sight 0, the last one of three the sight 2.
	holdOwn(t, "5\n", 1, 1, 0, 1, 2, 3)
	holdOwn(t, "5\n", 1, 2, 0, 2)
	holdOwn(t, "5\n", 2, 2, 1, 3)
	holdOwn(t, "5\n", 1, 3, 0, 3)
	holdOwn(t, "5\n", 2, 3, 1)
	holdOwn(t, "5\n", 3, 3, 2)
	holdOwn(t, "x.\n:5\n", 1, 3, 0, 3, 6)
	holdOwn(t, "x.\n:5\n", 2, 3, 1, 4, 7)
	holdOwn(t, "x.\n:5\n", 3, 3, 2, 5)
	holdOwn(t, "...\n", 1, 2, 0, 2, 4, 6)
	holdOwn(t, "...\n", 2, 2, 1, 3, 5, 7)
	whole := ".....\n.....\n.....\n.....\n.....\n"
	holdOwn(t, whole, 1, 1, countUp(20)...)
	holdOwn(t, whole, 1, 3, 0, 3, 6, 9, 12, 15, 18)
	holdOwn(t, whole, 2, 3, 1, 4, 7, 10, 13, 16, 19)
	holdOwn(t, whole, 3, 3, 2, 5, 8, 11, 14, 17)
	holdOwn(t, whole, 2, 2, 1, 3, 5, 7, 9, 11, 13, 15, 17, 19)
}

func TestNoPainterIsWithoutASight(t *testing.T) {
	// A grid of one cell has four sights, and there are at most three painters.
	for _, g := range slices.Concat(allGrids(1, 1), freeGrids()) {
		eachOfPainters(func(id, many int) {
			if own := impl.PaintOwn(g, id, many); len(own) == 0 || own[0] != id-1 {
				t.Fatalf("%v: %d of %d has %v", g, id, many, own)
			}
		})
	}
}

func TestOwnHangsOnNoCell(t *testing.T) {
	for _, g := range paintGrids(t) {
		free := impl.Grid{Wide: g.Wide, Cells: freeCells(len(g.Cells))}
		eachOfPainters(func(id, many int) {
			if own, want := impl.PaintOwn(g, id, many), impl.PaintOwn(free, id, many); !slices.Equal(own, want) {
				t.Fatalf("%v: %d of %d has %v, with free cells %v", g, id, many, own, want)
			}
		})
	}
}

func TestHearingByHand(t *testing.T) {
	p := mustHear(t, empty(), wholeWord(4, mustRead(t, "x.\n:5\n")))
	holdPainter(t, p, 4, "x.\n:5\n")
	holdScene(t, p.Scene, "x.\n:5\n", "0:0,2 320:1,3 0:0,1,2 320:3 320:3 0:0,1,2 160:2,3 0:0,1")
	p = mustHear(t, p, editWord(5, edit(3, "9")))
	holdPainter(t, p, 5, "x.\n:9\n")
	holdScene(t, p.Scene, "x.\n:9\n", "0:0,2 576:1,3 0:0,1,2 576:3 576:3 0:0,1,2 288:2,3 0:0,1")
	holdStays(t, "the same once more", p, editWord(5, edit(3, "9")))
	holdStays(t, "another one of the same version", p, editWord(5, edit(3, "1")))
	holdStays(t, "two more", p, editWord(7, edit(3, "1")))
	holdStays(t, "one less", p, editWord(4, edit(3, "1")))
	holdStays(t, "a whole of a lesser version", p, wholeWord(4, mustRead(t, "x.\n:5\n")))
	holdStays(t, "another whole of the same version", p, wholeWord(5, mustRead(t, "#\n")))
	// A newer whole may be of another size, and of any greater version.
	p = mustHear(t, p, wholeWord(6, mustRead(t, "./5\n")))
	holdPainter(t, p, 6, "./5\n")
	p = mustHear(t, p, wholeWord(60, mustRead(t, "3\n")))
	holdPainter(t, p, 60, "3\n")
}

func TestPaintersOfOneCell(t *testing.T) {
	for _, from := range signedCells() {
		g := impl.Grid{Wide: 1, Cells: []impl.Cell{from.cell}}
		p := mustHear(t, empty(), wholeWord(0, g))
		holdPainter(t, p, 0, string(rune(from.sign))+"\n")
		for _, to := range signedCells() {
			x := mustHear(t, p, editWord(1, impl.Edit{At: 0, Cell: to.cell}))
			holdPainter(t, x, 1, string(rune(to.sign))+"\n")
			light := 64 * to.cell.Light
			for id, many := range []int{2, 1, 1} {
				w := mustTell(t, x, id+1, 3)
				if !sameWord(w, impl.Word{Kind: 3, From: id + 1, Ver: 1, Lights: slices.Repeat([]int{light}, many)}) {
					t.Fatalf("%v tells %v", x, w)
				}
			}
		}
	}
}

func TestUpWithNothing(t *testing.T) {
	if !impl.PaintOk(empty()) || !impl.PaintOk(impl.Painter{}) {
		t.Fatal("a painter that has nothing is not ok")
	}
	for _, g := range paintGrids(t) {
		for _, ver := range someVers() {
			if x := mustHear(t, empty(), wholeWord(ver, g)); !samePainter(x, handPainter(ver, g)) {
				t.Fatalf("%v of the version %d is %v", g, ver, x)
			}
			// Without a scene there is nothing that an edit could be done in, not even the first one.
			holdStays(t, "an edit without a scene", empty(), editWord(ver, edit(0, ".")))
		}
	}
	eachOfPainters(func(id, many int) {
		if w := mustTell(t, empty(), id, many); !sameWord(w, impl.Word{Kind: 4, From: id}) {
			t.Fatalf("%d of %d tells %v", id, many, w)
		}
	})
}

func TestWholeOfEachVersion(t *testing.T) {
	g, other := mustRead(t, "x5\n"), mustRead(t, "9\n/\n")
	for ver := range verMost + 1 {
		holdPainter(t, mustHear(t, empty(), wholeWord(ver, g)), ver, "x5\n")
	}
	for _, ver := range wrongVers() {
		holdStays(t, "a wrong version", empty(), wholeWord(ver, g))
		for _, v := range someVers() {
			holdStays(t, "a wrong version", handPainter(v, g), wholeWord(ver, other))
			holdStays(t, "a wrong version", handPainter(v, g), editWord(ver, edit(0, "1")))
		}
	}
	// One that has the version 0 has something: a whole of that is not newer.
	holdStays(t, "the version 0 once more", handPainter(0, g), wholeWord(0, other))
	holdPainter(t, mustHear(t, handPainter(0, g), wholeWord(1, other)), 1, "9\n/\n")
}

func TestEditUpToVerMax(t *testing.T) {
	g := mustRead(t, "x5\n")
	p := mustHear(t, handPainter(verMost-1, g), editWord(verMost, edit(1, "#")))
	holdPainter(t, p, verMost, "x#\n")
	holdStays(t, "one more than VerMax", p, editWord(verMost+1, edit(1, ".")))
	holdStays(t, "one more than VerMax", p, wholeWord(verMost+1, g))
	holdStays(t, "the version 0", p, editWord(0, edit(1, ".")))
	// No version is just one less than 0.
	holdStays(t, "the version 0", handPainter(0, g), editWord(0, edit(1, ".")))
	holdPainter(t, mustHear(t, handPainter(0, g), editWord(1, edit(1, "."))), 1, "x.\n")
	holdStays(t, "two more", handPainter(0, g), editWord(2, edit(1, ".")))
	if w := mustTell(t, p, 2, 2); !sameWord(w, impl.Word{Kind: 3, From: 2, Ver: verMost, Lights: []int{0, 0, 0}}) {
		t.Fatalf("%v tells %v", p, w)
	}
}

func TestEditThatPutsWhatIsThere(t *testing.T) {
	for _, g := range paintGrids(t) {
		last := len(g.Cells) - 1
		p := handPainter(8, g)
		if x := mustHear(t, p, editWord(9, impl.Edit{At: last, Cell: g.Cells[last]})); !samePainter(x, handPainter(9, g)) {
			t.Fatalf("%v with what is there is %v", p, x)
		}
		if x := mustHear(t, p, wholeWord(9, g)); !samePainter(x, handPainter(9, g)) {
			t.Fatalf("%v by its own grid is %v", p, x)
		}
	}
}

func TestEditsOfFirstPlaceAndLast(t *testing.T) {
	p := mustHear(t, empty(), wholeWord(0, mustRead(t, "./\nz#\n")), editWord(1, edit(0, "9")), editWord(2, edit(3, ":")))
	holdPainter(t, p, 2, "9/\nz:\n")
	// A place that nobody sees is put, too.
	p = mustHear(t, empty(), wholeWord(3, mustRead(t, "###\n#.#\n###\n")), editWord(4, edit(4, "5")), editWord(5, edit(1, ".")))
	holdPainter(t, p, 5, "#.#\n#5#\n###\n")
	if w := mustTell(t, p, 2, 3); lightsText(w.Lights) != "320 0 0 0" {
		t.Fatalf("%v tells %v", p, w)
	}
}

func TestTellingByHand(t *testing.T) {
	p := handPainter(4, mustRead(t, "x.\n:5\n"))
	for _, x := range []struct {
		id, many int
		lights   string
	}{
		{1, 1, "0 320 0 320 320 0 160 0"},
		{1, 2, "0 0 320 160"}, {2, 2, "320 320 0 0"},
		{1, 3, "0 320 160"}, {2, 3, "320 320 0"}, {3, 3, "0 0"},
	} {
		w := mustTell(t, p, x.id, x.many)
		if lightsText(w.Lights) != x.lights || w.Kind != 3 || w.From != x.id || w.To != 0 || w.Ver != 4 {
			t.Fatalf("%d of %d tells %v, not %s", x.id, x.many, w, x.lights)
		}
	}
}

func TestOtherPartsOfAWordDoNotCount(t *testing.T) {
	g, other := mustRead(t, "x5\n"), mustRead(t, "9\n/\n")
	for _, to := range []int{-1, 0, 1, 3, 4} {
		for _, from := range []int{-1, 0, 2, 4} {
			whole := impl.Word{Kind: 1, To: to, From: from, Ver: 2, Grid: other, Edit: edit(99, "5"), Lights: []int{-1, 5}}
			holdPainter(t, mustHear(t, handPainter(1, g), whole), 2, "9\n/\n")
			put := impl.Word{Kind: 2, To: to, From: from, Ver: 2, Grid: impl.Grid{Wide: -3, Cells: freeCells(2)}, Edit: edit(1, "1"), Lights: []int{-1, 5}}
			holdPainter(t, mustHear(t, handPainter(1, g), put), 2, "x1\n")
		}
	}
}
