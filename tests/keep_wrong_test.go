package tests

import (
	"math"
	"slices"
	"testing"

	"loop.example/lucarne/impl"
)

func TestKeepersOfWrongGrids(t *testing.T) {
	for why, g := range wrongGrids() {
		for many := -1; many <= paintMost+1; many++ {
			if k, ok := impl.KeepNew(g, many); ok || !isNoKeeper(k) {
				t.Errorf("%s: %d painters: %s, %v", why, many, short(k), ok)
			}
		}
		for many := 1; many <= paintMost; many++ {
			parts := make([]impl.Part, many)
			holdNoKeeper(t, why, impl.Keeper{First: g, Parts: parts})
			// What would mend the grid does not mend the keeper.
			holdNoKeeper(t, why, impl.Keeper{First: g, Parts: parts, Edits: []impl.Edit{edit(len(g.Cells)-1, ".")}})
		}
	}
	holdNoKeeper(t, "nothing", impl.Keeper{})
}

func TestNotSoManyPainters(t *testing.T) {
	for _, g := range slices.Concat(allGrids(1, 1)[:8], wholeGrids(), roundGrids(t)) {
		for _, many := range []int{0, paintMost + 1, -1, -paintMost, 256 + 1, 1<<32 + 1, math.MinInt, math.MaxInt} {
			if k, ok := impl.KeepNew(g, many); ok || !isNoKeeper(k) {
				t.Fatalf("%v: %d painters: %v, %v", g, many, k, ok)
			}
		}
		for _, many := range []int{0, paintMost + 1, paintMost + 2, 100000} {
			holdNoKeeper(t, "not so many painters", impl.Keeper{First: g, Parts: make([]impl.Part, many)})
		}
	}
	k := handKeeper(mustRead(t, "5\n"), nil, []int{0, 0, 0}, []int{0})
	k.Parts = append(k.Parts, impl.Part{})
	holdNoKeeper(t, "a fourth painter", k)
	k.Parts = nil
	holdNoKeeper(t, "no painter", k)
}

func TestVersionsThatThereAreNot(t *testing.T) {
	d := &dice{86}
	eachKeeper(t, d, keepGrids(t), func(k impl.Keeper) {
		for _, ver := range wrongNewest(len(k.Edits)) {
			holdNoVersion(t, "no such version", k, ver)
		}
	})
	for _, k := range fullKeepers(d, mustRead(t, "x.\n:5\n")) {
		for _, ver := range wrongNewest(len(k.Edits)) {
			holdNoVersion(t, "no such version", k, ver)
		}
	}
}

func TestKeepEditsThatCannotBeDone(t *testing.T) {
	d := &dice{87}
	for _, g := range slices.Concat(allGrids(1, 1)[:8], roundGrids(t)[:5], gridsOf(87, 1, ".#/\\xz:159")[5:15]) {
		for _, newest := range []int{0, 1, 4} {
			k := handKeeper(g, rolledEdits(d, g, newest), rolledTold(d, newest, 2), rolledShown(d, newest))
			for _, e := range wrongEdits(g) {
				holdNotEdited(t, "an edit that cannot be done", k, e)
				for _, at := range []int{0, newest / 2, newest} {
					x := copyKeeper(k)
					x.Edits = slices.Insert(x.Edits, at, e)
					if impl.KeepOk(x) {
						t.Fatalf("ok: %v", x)
					}
				}
				x := handKeeper(g, k.Edits, []int{-1, -1}, nil)
				x.Edits = append(x.Edits, e)
				holdNoKeeper(t, "edits that cannot all be done", x)
			}
		}
	}
}

func TestMoreEditsThanVerMax(t *testing.T) {
	for _, g := range slices.Concat(allGrids(1, 1)[:8], roundGrids(t)) {
		k := impl.Keeper{First: g, Parts: make([]impl.Part, 2), Edits: rolledEdits(&dice{88}, g, verMost+1)}
		holdNoKeeper(t, "one more than VerMax", k)
		k.Edits = k.Edits[:verMost]
		if !impl.KeepOk(k) {
			t.Fatalf("not ok: %v", k)
		}
		holdNotEdited(t, "VerMax already", k, edit(0, "."))
		k.Edits = make([]impl.Edit, 100000)
		holdNoKeeper(t, "far more than VerMax", k)
	}
}

func TestNoSuchPainterIsTold(t *testing.T) {
	eachKeeper(t, &dice{89}, keepGrids(t), func(k impl.Keeper) {
		for _, to := range wrongFroms(len(k.Parts)) {
			holdNotTold(t, "no such painter", k, to)
		}
	})
}

func TestNoWordLetsAKeeperShow(t *testing.T) {
	// With one part more something would be shown; what is almost that part is not heard.
	g := mustRead(t, "x.\n:5\n")
	k := handKeeper(g, []impl.Edit{edit(3, "9")}, []int{1, -1, 1}, nil)
	right := truePart(k, 2, 1)
	if x := mustKeepHear(t, k, right); len(x.Shown) != 1 {
		t.Fatalf("%v becomes %v", k, x)
	}
	for why, wrong := range map[string]func(*impl.Word){
		"no kind":               func(w *impl.Word) { w.Kind = 0 },
		"a whole":               func(w *impl.Word) { w.Kind, w.Grid = impl.WordWhole, g },
		"an edit":               func(w *impl.Word) { w.Kind, w.Edit = impl.WordEdit, edit(0, "#") },
		"one kind more":         func(w *impl.Word) { w.Kind = 5 },
		"a kind below all":      func(w *impl.Word) { w.Kind = math.MinInt },
		"from nobody":           func(w *impl.Word) { w.From = 0 },
		"from one more":         func(w *impl.Word) { w.From = 4 },
		"to a painter, from 0":  func(w *impl.Word) { w.From, w.To = 0, 2 },
		"from below 0":          func(w *impl.Word) { w.From = -2 },
		"a light too few":       func(w *impl.Word) { w.Lights = w.Lights[:2] },
		"a light too many":      func(w *impl.Word) { w.Lights = append(w.Lights, 0) },
		"no lights":             func(w *impl.Word) { w.Lights = nil },
		"all lights":            func(w *impl.Word) { w.Lights = make([]int, 8) },
		"far too many lights":   func(w *impl.Word) { w.Lights = make([]int, 100000) },
		"one more than newest":  func(w *impl.Word) { w.Ver = 2 },
		"below the version 0":   func(w *impl.Word) { w.Ver = -1 },
		"the least version":     func(w *impl.Word) { w.Ver = math.MinInt },
		"the most version":      func(w *impl.Word) { w.Ver = math.MaxInt },
		"VerMax, but not there": func(w *impl.Word) { w.Ver = verMost },
	} {
		w := copyWord(right)
		wrong(&w)
		holdKeepStays(t, why, k, w)
	}
	// As many lights as another painter has are too few, or too many: here the third one has two.
	w := truePart(k, 3, 1)
	w.From = 2
	holdKeepStays(t, "another painter's lights", k, w)
	w = truePart(k, 2, 1)
	w.From = 3
	holdKeepStays(t, "another painter's lights", k, w)
}

// keepChange makes a keeper wrong, at a place of its Parts, or Shown.
type keepChange func(k *impl.Keeper, at int)

// wrongParts is changes of an ok keeper's Part that Has, and is of a version that is not the newest, and of which some light is not 0.
func wrongParts() map[string]keepChange {
	return map[string]keepChange{
		"brighter":             func(k *impl.Keeper, at int) { k.Parts[at].Lights[0]++ },
		"the last darker":      func(k *impl.Keeper, at int) { k.Parts[at].Lights[len(k.Parts[at].Lights)-1]-- },
		"a light too few":      func(k *impl.Keeper, at int) { k.Parts[at].Lights = k.Parts[at].Lights[1:] },
		"the last one missing": func(k *impl.Keeper, at int) { k.Parts[at].Lights = k.Parts[at].Lights[:len(k.Parts[at].Lights)-1] },
		"a light too many":     func(k *impl.Keeper, at int) { k.Parts[at].Lights = append(k.Parts[at].Lights, 0) },
		"no lights":            func(k *impl.Keeper, at int) { k.Parts[at].Lights = nil },
		"far too many lights":  func(k *impl.Keeper, at int) { k.Parts[at].Lights = make([]int, 100000) },
		"of another version":   func(k *impl.Keeper, at int) { k.Parts[at].Ver++ },
		"of one more version":  func(k *impl.Keeper, at int) { k.Parts[at].Ver = len(k.Edits) + 1 },
		"below the version 0":  func(k *impl.Keeper, at int) { k.Parts[at].Ver = -1 },
		"the least version":    func(k *impl.Keeper, at int) { k.Parts[at].Ver = math.MinInt },
		"the most version":     func(k *impl.Keeper, at int) { k.Parts[at].Ver = math.MaxInt },
		"not Has":              func(k *impl.Keeper, at int) { k.Parts[at].Has = false },
		"not Has, lights":      func(k *impl.Keeper, at int) { k.Parts[at].Has, k.Parts[at].Ver = false, 0 },
		"not Has, a version":   func(k *impl.Keeper, at int) { k.Parts[at] = impl.Part{Ver: 1} },
		"not Has, below 0":     func(k *impl.Keeper, at int) { k.Parts[at] = impl.Part{Ver: -1} },
		"not Has, a light":     func(k *impl.Keeper, at int) { k.Parts[at] = impl.Part{Lights: []int{0}} },
		"Has nothing":          func(k *impl.Keeper, at int) { k.Parts[at] = impl.Part{Has: true} },
		"of another picture":   func(k *impl.Keeper, _ int) { k.First.Cells[1].Kind = impl.CellFree },
	}
}

// wrongShown is changes of an ok keeper's Shown, of which there are three, the first one not of the version 0, the last one not of the newest.
func wrongShown() map[string]keepChange {
	return map[string]keepChange{
		"brighter":             func(k *impl.Keeper, at int) { k.Shown[at].Pic[0]++ },
		"the last darker":      func(k *impl.Keeper, at int) { k.Shown[at].Pic[7]-- },
		"a light too few":      func(k *impl.Keeper, at int) { k.Shown[at].Pic = k.Shown[at].Pic[1:] },
		"the last one missing": func(k *impl.Keeper, at int) { k.Shown[at].Pic = k.Shown[at].Pic[:7] },
		"a light too many":     func(k *impl.Keeper, at int) { k.Shown[at].Pic = append(k.Shown[at].Pic, 0) },
		"no picture":           func(k *impl.Keeper, at int) { k.Shown[at].Pic = nil },
		"far too many lights":  func(k *impl.Keeper, at int) { k.Shown[at].Pic = make([]int, 100000) },
		"nothing":              func(k *impl.Keeper, at int) { k.Shown[at] = impl.Shown{} },
		"of another version":   func(k *impl.Keeper, at int) { k.Shown[at].Ver++ },
		"of the one ahead":     func(k *impl.Keeper, at int) { k.Shown[at].Ver-- },
		"of one more version":  func(k *impl.Keeper, at int) { k.Shown[at].Ver = len(k.Edits) + 1 },
		"below the version 0":  func(k *impl.Keeper, at int) { k.Shown[at].Ver = -1 },
		"the least version":    func(k *impl.Keeper, at int) { k.Shown[at].Ver = math.MinInt },
		"the most version":     func(k *impl.Keeper, at int) { k.Shown[at].Ver = math.MaxInt },
		"twice":                func(k *impl.Keeper, at int) { k.Shown = slices.Insert(k.Shown, at, k.Shown[at]) },
		"the first once more":  func(k *impl.Keeper, _ int) { k.Shown = append(k.Shown, k.Shown[0]) },
		"the last one first":   func(k *impl.Keeper, _ int) { k.Shown = slices.Insert(k.Shown, 0, k.Shown[2]) },
		"two exchanged":        func(k *impl.Keeper, at int) { k.Shown[at], k.Shown[(at+1)%3] = k.Shown[(at+1)%3], k.Shown[at] },
		"the other way about":  func(k *impl.Keeper, _ int) { slices.Reverse(k.Shown) },
		"very often":           func(k *impl.Keeper, at int) { k.Shown = slices.Repeat(k.Shown[at:at+1], 100000) },
	}
}

// wrongKeepers is each of these changes of a keeper of three painters, at each place.
func wrongKeepers(t *testing.T, changes map[string]keepChange) map[string][]impl.Keeper {
	t.Helper()
	// Each version has another picture at each painter's sights.
	edits := []impl.Edit{edit(3, "9"), edit(3, "1"), edit(3, "8"), edit(3, "2"), edit(3, "7"), edit(3, "3")}
	k := handKeeper(mustRead(t, "./\n:5\n"), edits, []int{1, 3, 5}, []int{1, 3, 5})
	if !impl.KeepOk(k) {
		t.Fatalf("not ok: %v", k)
	}
	all := make(map[string][]impl.Keeper)
	for why, change := range changes {
		for at := range 3 {
			x := copyKeeper(k)
			change(&x, at)
			all[why] = append(all[why], x)
		}
	}
	return all
}

func TestKeepersOfWrongParts(t *testing.T) {
	for why, list := range wrongKeepers(t, wrongParts()) {
		for _, k := range list {
			holdNoKeeper(t, why, k)
			// A word that would put a right part there does not mend the keeper, as it is not ok ahead of that.
			for id := 1; id <= 3; id++ {
				for _, w := range []impl.Word{truePart(k, id, 0), wantWord(id)} {
					if x := impl.KeepHear(k, w); !isNoKeeper(x) {
						t.Fatalf("%s: %s hears %v, and is %v", why, short(k), w, x)
					}
				}
			}
		}
	}
}

func TestKeepersOfWrongShown(t *testing.T) {
	for why, list := range wrongKeepers(t, wrongShown()) {
		for _, k := range list {
			holdNoKeeper(t, why, k)
		}
	}
}

func TestPartsOfEachOther(t *testing.T) {
	// What one painter told is not what another one told, though both have as many sights.
	k := handKeeper(mustRead(t, "x.\n:5\n"), nil, []int{0, 0}, nil)
	k.Parts[0], k.Parts[1] = k.Parts[1], k.Parts[0]
	holdNoKeeper(t, "parts exchanged", k)
	// With another number of painters the same lights are of other sights.
	k = handKeeper(mustRead(t, "x.\n:5\n"), nil, []int{0, -1}, nil)
	k.Parts = append(k.Parts, impl.Part{})
	holdNoKeeper(t, "one painter more", k)
}

func TestEmptyListsAreNothing(t *testing.T) {
	g := mustRead(t, "x.\n:5\n")
	k := impl.Keeper{First: g, Edits: []impl.Edit{}, Parts: []impl.Part{{Lights: []int{}}, {}}, Shown: []impl.Shown{}}
	if !impl.KeepOk(k) || !sameKeeper(k, mustKeep(t, g, 2)) {
		t.Fatalf("not ok: %v", k)
	}
	holdKeepStays(t, "no word", k, impl.Word{})
	holdKeepStays(t, "a want of one that told nothing", k, wantWord(1))
	holdKeepStays(t, "a part without lights", k, impl.Word{Kind: 3, From: 1, Lights: []int{}})
}
