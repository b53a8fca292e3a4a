package tests

import (
	"slices"
	"testing"

	"loop.example/lucarne/impl"
)

// keeping is a keeper, and a word that comes to it.
type keeping struct {
	keeper impl.Keeper
	word   impl.Word
}

// lendKeeper is a keeper all of whose lists lie amid longer ones.
func lendKeeper(to *loan, k impl.Keeper) impl.Keeper {
	x := impl.Keeper{First: lendGrid(to, k.First), Edits: lendEdits(to, k.Edits)}
	var parts []impl.Part
	for _, p := range k.Parts {
		p.Lights = lendInts(to, p.Lights)
		parts = append(parts, p)
	}
	wholeParts, parts := lentOf(parts, impl.Part{Has: true, Ver: -7, Lights: []int{-7}})
	*to = append(*to, listOf[impl.Part]{wholeParts, impl.Part{Ver: -8, Lights: []int{-8}}, copyPart, samePart})
	var shown []impl.Shown
	for _, s := range k.Shown {
		s.Pic = lendInts(to, s.Pic)
		shown = append(shown, s)
	}
	wholeShown, shown := lentOf(shown, impl.Shown{Ver: -7, Pic: []int{-7}})
	*to = append(*to, listOf[impl.Shown]{wholeShown, impl.Shown{Ver: -8, Pic: []int{-8}}, copyShown, sameShown})
	x.Parts, x.Shown = parts, shown
	return x
}

func lendKeeping(to *loan, k keeping) keeping {
	return keeping{lendKeeper(to, k.keeper), lendWord(to, k.word)}
}

// keepAnswer is what is answered of a keeper and a word.
type keepAnswer struct {
	keeper impl.Keeper
	grid   impl.Grid
	word   impl.Word
	ok     bool
}

func (a keepAnswer) copied() keepAnswer {
	return keepAnswer{copyKeeper(a.keeper), copyGrid(a.grid), copyWord(a.word), a.ok}
}

func (a keepAnswer) same(other keepAnswer) bool {
	return a.ok == other.ok && sameKeeper(a.keeper, other.keeper) && sameGrid(a.grid, other.grid) && sameWord(a.word, other.word)
}

// spoil writes over all lists of an answer, spare room included, and fails if two of them share any.
func (a keepAnswer) spoil(t *testing.T, g impl.Grid) {
	t.Helper()
	var rows [][]int
	for _, p := range a.keeper.Parts {
		rows = append(rows, p.Lights)
	}
	for _, s := range a.keeper.Shown {
		rows = append(rows, s.Pic)
	}
	spoilRows(t, g, append(rows, a.word.Lights))
	spoilAll(a.keeper.Parts, impl.Part{Ver: -9, Lights: []int{-9}})
	spoilAll(a.keeper.Shown, impl.Shown{Ver: -9, Pic: []int{-9}})
	spoilAll(a.keeper.Edits, impl.Edit{At: -9})
	spoil(a.keeper.First)
	spoil(a.grid)
	spoil(a.word.Grid)
}

// keepAsks is all that is asked of a keeper, and answers lists, but for KeepHear.
func keepAsks(newest int) map[string]func(keeping) keepAnswer {
	asks := map[string]func(keeping) keepAnswer{
		"KeepOk": func(k keeping) keepAnswer { return keepAnswer{ok: impl.KeepOk(k.keeper)} },
	}
	for name, many := range map[string]int{"KeepNew": 3, "KeepNew, alone": 1, "KeepNew, none": 0, "KeepNew, too many": 4} {
		asks[name] = func(k keeping) keepAnswer {
			x, ok := impl.KeepNew(k.keeper.First, many)
			return keepAnswer{keeper: x, ok: ok}
		}
	}
	for name, ver := range map[string]int{"KeepGrid, first": 0, "KeepGrid, newest": newest, "KeepGrid, none": newest + 1} {
		asks[name] = func(k keeping) keepAnswer {
			x, ok := impl.KeepGrid(k.keeper, ver)
			return keepAnswer{grid: x, ok: ok}
		}
	}
	for name, e := range map[string]impl.Edit{"KeepEdit": edit(0, "#"), "KeepEdit, no place": edit(-1, "."), "KeepEdit, no cell": {Cell: impl.Cell{Kind: 8}}} {
		asks[name] = func(k keeping) keepAnswer {
			x, ok := impl.KeepEdit(k.keeper, e)
			return keepAnswer{keeper: x, ok: ok}
		}
	}
	for name, to := range map[string]int{"KeepTell, 1": 1, "KeepTell, 2": 2, "KeepTell, 3": 3, "KeepTell, nobody": 0} {
		asks[name] = func(k keeping) keepAnswer {
			w, ok := impl.KeepTell(k.keeper, to)
			return keepAnswer{word: w, ok: ok}
		}
	}
	return asks
}

func hearAsk(k keeping) keepAnswer {
	return keepAnswer{keeper: impl.KeepHear(k.keeper, k.word)}
}

// memoryKeepers is keepers without edits, with some, and with as many as can be, to which nothing, some, and all was told.
func memoryKeepers(d *dice, g impl.Grid) []impl.Keeper {
	edits := rolledEdits(d, g, verMost)
	return []impl.Keeper{
		handKeeper(g, nil, []int{-1}, nil),
		handKeeper(g, nil, []int{0, -1}, nil),
		handKeeper(g, nil, []int{0, 0, 0}, []int{0}),
		handKeeper(g, edits[:1], []int{1, 0, -1}, []int{0}),
		handKeeper(g, edits[:4], []int{4, 4, 3}, []int{0, 2, 3}),
		handKeeper(g, edits[:4], []int{1, 2, 4}, nil),
		handKeeper(g, edits, []int{verMost - 1, verMost}, []int{1, verMost - 1}),
	}
}

// memoryHeard is words that an ok keeper hears, and words that are none to it, with more in them than there must be.
func memoryHeard(k impl.Keeper) []impl.Word {
	words := noWords(k)[:6]
	for id := 1; id <= len(k.Parts); id++ {
		words = append(words, wantWord(id), truePart(k, id, 0), truePart(k, id, len(k.Edits)))
		few := truePart(k, id, 0)
		few.Lights = few.Lights[1:]
		words = append(words, few)
	}
	for i := range words {
		words[i].Grid, words[i].Edit = k.First, edit(0, "9")
	}
	return words
}

func TestKeepersAreNewMemory(t *testing.T) {
	d := &dice{90}
	grids := slices.Concat(allGrids(1, 1)[6:8], roundGrids(t)[:4], gridsOf(90, 1, ".#/\\xz:159")[8:14])
	shows := 0
	for _, g := range grids {
		for _, k := range memoryKeepers(d, g) {
			for _, w := range memoryHeard(k) {
				if len(impl.KeepHear(k, w).Shown) > len(k.Shown) {
					shows++
				}
				holdNewAnswer(t, "KeepHear", g, keeping{k, w}, lendKeeping, hearAsk)
			}
			for name, ask := range keepAsks(len(k.Edits)) {
				holdNewAnswer(t, name, g, keeping{k, impl.Word{}}, lendKeeping, ask)
			}
		}
	}
	if shows == 0 {
		t.Fatal("no word lets a keeper show something")
	}
}

func TestWrongKeepersAreNotWritten(t *testing.T) {
	for _, changes := range []map[string]keepChange{wrongParts(), wrongShown()} {
		for why, list := range wrongKeepers(t, changes) {
			for _, k := range list {
				holdNotWritten(t, why, k, lendKeeper, holdNoKeeper)
			}
		}
	}
	g := mustRead(t, "x.\n:5\n")
	full := rolledEdits(&dice{91}, g, verMost+1)
	parts := make([]impl.Part, 4)
	for why, k := range map[string]impl.Keeper{
		"too many edits":    {First: g, Edits: full, Parts: parts[:2]},
		"a wrong edit":      {First: g, Edits: []impl.Edit{edit(0, "#"), edit(4, ".")}, Parts: parts[:2]},
		"too many painters": {First: g, Edits: full[:2], Parts: parts},
		"no painters":       {First: g, Edits: full[:2]},
		"a wrong grid":      {First: impl.Grid{Wide: 3, Cells: g.Cells}, Edits: full[:2], Parts: parts[:2]},
	} {
		holdNotWritten(t, why, k, lendKeeper, holdNoKeeper)
	}
}

func TestKeepersOfSpareRoom(t *testing.T) {
	// What lies behind the end of a list is none of it.
	g := mustRead(t, "x.\n:5\n")
	k := lendKeeper(&loan{}, handKeeper(g, []impl.Edit{edit(3, "9")}, []int{1, 0}, []int{0}))
	holdNoVersion(t, "in spare room", k, 2)
	holdNotTold(t, "in spare room", k, 3)
	holdKeepStays(t, "in spare room", k, impl.Word{Kind: 3, From: 3, Ver: 1, Lights: []int{0, 0}})
	holdNotEdited(t, "in spare room", k, edit(4, "."))
}

func TestKeepersAreTheSameEveryTime(t *testing.T) {
	d := &dice{92}
	for _, g := range roundGrids(t) {
		k := handKeeper(g, rolledEdits(d, g, 4), []int{4, 4, 3}, []int{0, 2, 3})
		w := truePart(k, 3, 4)
		heard, e := handKeepHear(k, w), rolledEdits(d, g, 1)[0]
		edited := handKeeper(g, append(slices.Clone(k.Edits), e), []int{4, 4, 3}, []int{0, 2, 3})
		for range 20 {
			if x := mustKeepHear(t, k, w); !sameKeeper(x, heard) {
				t.Fatalf("%v hears %v, and is %v, not %v", k, w, x, heard)
			}
			if x := mustKeepEdit(t, k, e); !sameKeeper(x, edited) {
				t.Fatalf("%v with %v is %v, not %v", k, e, x, edited)
			}
			for to := 1; to <= 3; to++ {
				if told := mustKeepTell(t, k, to); !sameWord(told, handKeepTell(k, to)) {
					t.Fatalf("%v tells %d %v", k, to, told)
				}
			}
		}
	}
}
