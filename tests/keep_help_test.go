package tests

import (
	"math"
	"slices"
	"strconv"
	"strings"
	"testing"

	"loop.example/lucarne/impl"
)

// editFar is how far behind a painter may be to be told edits, as the document has it.
const editFar = 2

func samePart(a, b impl.Part) bool {
	return a.Has == b.Has && a.Ver == b.Ver && slices.Equal(a.Lights, b.Lights)
}

func sameShown(a, b impl.Shown) bool {
	return a.Ver == b.Ver && slices.Equal(a.Pic, b.Pic)
}

func sameKeeper(a, b impl.Keeper) bool {
	return sameGrid(a.First, b.First) && slices.Equal(a.Edits, b.Edits) && slices.EqualFunc(a.Parts, b.Parts, samePart) && slices.EqualFunc(a.Shown, b.Shown, sameShown)
}

func isNoKeeper(k impl.Keeper) bool {
	return sameKeeper(k, impl.Keeper{})
}

func copyPart(p impl.Part) impl.Part {
	p.Lights = slices.Clone(p.Lights)
	return p
}

func copyShown(s impl.Shown) impl.Shown {
	s.Pic = slices.Clone(s.Pic)
	return s
}

// copyKeeper is a keeper that shares nothing with this one.
func copyKeeper(k impl.Keeper) impl.Keeper {
	x := impl.Keeper{First: copyGrid(k.First), Edits: slices.Clone(k.Edits)}
	for _, p := range k.Parts {
		x.Parts = append(x.Parts, copyPart(p))
	}
	for _, s := range k.Shown {
		x.Shown = append(x.Shown, copyShown(s))
	}
	return x
}

// handGridOf is the grid of a version of an ok keeper, without the program's help.
func handGridOf(k impl.Keeper, ver int) impl.Grid {
	return handPut(k.First, k.Edits[:ver]...)
}

// handPart is what a painter of an ok keeper tells of a version, without the program's help; of -1 it told nothing.
func handPart(k impl.Keeper, id, ver int) impl.Part {
	if ver < 0 {
		return impl.Part{}
	}
	p := impl.Part{Has: true, Ver: ver}
	for sight, light := range handPic(handGridOf(k, ver)) {
		if sight%len(k.Parts) == id-1 {
			p.Lights = append(p.Lights, light)
		}
	}
	return p
}

// handKeeper is a keeper to which each painter told last of such a version (-1: of none), and that showed such versions, without the program's help.
func handKeeper(first impl.Grid, edits []impl.Edit, told, shown []int) impl.Keeper {
	k := impl.Keeper{First: copyGrid(first), Edits: slices.Clone(edits), Parts: make([]impl.Part, len(told))}
	for i, ver := range told {
		k.Parts[i] = handPart(k, i+1, ver)
	}
	for _, ver := range shown {
		k.Shown = append(k.Shown, impl.Shown{Ver: ver, Pic: handPic(handGridOf(k, ver))})
	}
	return k
}

// handKeepTell is what an ok keeper tells a painter, without the program's help.
func handKeepTell(k impl.Keeper, to int) impl.Word {
	newest, told := len(k.Edits), k.Parts[to-1]
	if told.Has && (newest == told.Ver+1 || newest == told.Ver+2) {
		return impl.Word{Kind: 2, To: to, Ver: told.Ver + 1, Edit: k.Edits[told.Ver]}
	}
	return impl.Word{Kind: 1, To: to, Ver: newest, Grid: handGridOf(k, newest)}
}

// handKeepHear is what an ok keeper becomes by a word, without the program's help.
func handKeepHear(k impl.Keeper, w impl.Word) impl.Keeper {
	x, many := copyKeeper(k), len(k.Parts)
	if w.From < 1 || w.From > many {
		return x
	}
	switch {
	case w.Kind == 4:
		x.Parts[w.From-1] = impl.Part{}
	case w.Kind == 3 && w.Ver >= 0 && w.Ver <= len(k.Edits) && len(w.Lights) == len(handOwn(k.First, w.From, many)):
		x.Parts[w.From-1] = impl.Part{Has: true, Ver: w.Ver, Lights: slices.Clone(w.Lights)}
	default:
		return x
	}
	if !allOfOne(x.Parts) || slices.ContainsFunc(x.Shown, func(s impl.Shown) bool { return s.Ver >= x.Parts[0].Ver }) {
		return x
	}
	pic := make([]int, len(handSights(k.First)))
	for sight := range pic {
		pic[sight] = x.Parts[sight%many].Lights[sight/many]
	}
	x.Shown = append(x.Shown, impl.Shown{Ver: x.Parts[0].Ver, Pic: pic})
	return x
}

// allOfOne says whether all have told, and of one version.
func allOfOne(parts []impl.Part) bool {
	return !slices.ContainsFunc(parts, func(p impl.Part) bool { return !p.Has || p.Ver != parts[0].Ver })
}

// truePart is the word by which a painter of an ok keeper tells truly of a version.
func truePart(k impl.Keeper, id, ver int) impl.Word {
	return impl.Word{Kind: 3, From: id, Ver: ver, Lights: handPart(k, id, ver).Lights}
}

// wantWord is the word by which a painter wants the whole.
func wantWord(id int) impl.Word {
	return impl.Word{Kind: 4, From: id}
}

// toldVers is versions that a painter may have told of: none, the first, those about EditFar behind the newest, the newest.
func toldVers(newest int) []int {
	vers := []int{-1, 0, newest - editFar - 1, newest - editFar, newest - 1, newest}
	vers = slices.DeleteFunc(vers, func(ver int) bool { return ver < -1 })
	slices.Sort(vers)
	return slices.Compact(vers)
}

// rolledTold is what so many painters told of, in half of all cases of the same version.
func rolledTold(d *dice, newest, many int) []int {
	vers := toldVers(newest)
	told := make([]int, many)
	same := d.roll(2) == 0
	for i := range told {
		told[i] = vers[d.roll(len(vers))]
		if same {
			told[i] = told[0]
		}
	}
	return told
}

// rolledShown is some versions, ascending; none in half of all cases, so that there is something to show.
func rolledShown(d *dice, newest int) []int {
	var shown []int
	if d.roll(2) == 0 {
		return shown
	}
	for ver := range newest + 1 {
		if d.roll(5) == 0 {
			shown = append(shown, ver)
		}
	}
	return shown
}

// keepGrids is some of each kind, as many words are heard in each.
func keepGrids(t *testing.T) []impl.Grid {
	return slices.Concat(allGrids(1, 1)[:8], roundGrids(t), gridsOf(73, 1, ".#/\\xz:159"))
}

// eachKeeper tells keepers of each grid, of one, two and three painters, with no edit, one, and several, what was told and shown being rolled.
func eachKeeper(t *testing.T, d *dice, grids []impl.Grid, tell func(k impl.Keeper)) {
	t.Helper()
	for _, g := range grids {
		for many := 1; many <= paintMost; many++ {
			for _, newest := range []int{0, 1, 2, 3, 5} {
				k := handKeeper(g, rolledEdits(d, g, newest), rolledTold(d, newest, many), rolledShown(d, newest))
				if !impl.KeepOk(k) {
					t.Fatalf("not ok: %v", k)
				}
				tell(k)
			}
		}
	}
}

// fullKeepers is keepers with as many edits as can be, and with one less.
func fullKeepers(d *dice, g impl.Grid) []impl.Keeper {
	var all []impl.Keeper
	edits := rolledEdits(d, g, verMost)
	for _, newest := range []int{verMost - 1, verMost} {
		for many := 1; many <= paintMost; many++ {
			all = append(all, handKeeper(g, edits[:newest], rolledTold(d, newest, many), nil))
		}
	}
	return append(all, handKeeper(g, edits, []int{verMost, verMost - 1}, countUp(verMost)), handKeeper(g, edits, []int{verMost}, countUp(verMost+1)))
}

// mustKeep is the keeper of a grid, which must be ok.
func mustKeep(t *testing.T, g impl.Grid, many int) impl.Keeper {
	t.Helper()
	k, ok := impl.KeepNew(g, many)
	if !ok || !impl.KeepOk(k) {
		t.Fatalf("KeepNew(%v, %d) is %v, %v", g, many, k, ok)
	}
	return k
}

// mustKeepGrid is the grid of a version, which there must be.
func mustKeepGrid(t *testing.T, k impl.Keeper, ver int) impl.Grid {
	t.Helper()
	g, ok := impl.KeepGrid(k, ver)
	if !ok {
		t.Fatalf("%v: KeepGrid of %d is %v, %v", k, ver, g, ok)
	}
	return g
}

// mustKeepEdit is a keeper behind edits, which must be done.
func mustKeepEdit(t *testing.T, k impl.Keeper, list ...impl.Edit) impl.Keeper {
	t.Helper()
	for _, e := range list {
		x, ok := impl.KeepEdit(k, e)
		if !ok || !impl.KeepOk(x) {
			t.Fatalf("%v: KeepEdit with %v is %v, %v", k, e, x, ok)
		}
		k = x
	}
	return k
}

// mustKeepTell is what a keeper tells a painter, which must be something.
func mustKeepTell(t *testing.T, k impl.Keeper, to int) impl.Word {
	t.Helper()
	w, ok := impl.KeepTell(k, to)
	if !ok {
		t.Fatalf("%v: KeepTell to %d is %v, %v", k, to, w, ok)
	}
	return w
}

// mustKeepHear is a keeper behind words, one behind the other, which must be ok at each moment.
func mustKeepHear(t *testing.T, k impl.Keeper, words ...impl.Word) impl.Keeper {
	t.Helper()
	for _, w := range words {
		x := impl.KeepHear(k, w)
		if !impl.KeepOk(x) {
			t.Fatalf("%v hears %v, and is %v", k, w, x)
		}
		k = x
	}
	return k
}

// holdKeepStays fails unless a keeper stays as it is by a word.
func holdKeepStays(t *testing.T, why string, k impl.Keeper, w impl.Word) {
	t.Helper()
	if x := impl.KeepHear(k, w); !sameKeeper(x, k) {
		t.Fatalf("%s: %s hears %s, and is %s", why, short(k), short(w), short(x))
	}
}

// holdNoVersion fails unless a keeper has no such version.
func holdNoVersion(t *testing.T, why string, k impl.Keeper, ver int) {
	t.Helper()
	if g, ok := impl.KeepGrid(k, ver); ok || !isNoGrid(g) {
		t.Fatalf("%s: %s: KeepGrid of %d is %v, %v", why, short(k), ver, g, ok)
	}
}

// holdNotEdited fails unless an edit is not done, and nothing is answered beside that.
func holdNotEdited(t *testing.T, why string, k impl.Keeper, e impl.Edit) {
	t.Helper()
	if x, ok := impl.KeepEdit(k, e); ok || !isNoKeeper(x) {
		t.Fatalf("%s: %s: KeepEdit with %v is %s, %v", why, short(k), e, short(x), ok)
	}
}

// holdNotTold fails unless nothing is told to such a painter.
func holdNotTold(t *testing.T, why string, k impl.Keeper, to int) {
	t.Helper()
	if w, ok := impl.KeepTell(k, to); ok || !isNoWord(w) {
		t.Fatalf("%s: %s: KeepTell to %d is %v, %v", why, short(k), to, w, ok)
	}
}

// holdNoKeeper fails unless a keeper is not ok, whatever is asked of it.
func holdNoKeeper(t *testing.T, why string, k impl.Keeper) {
	t.Helper()
	if impl.KeepOk(k) {
		t.Fatalf("%s: ok: %s", why, short(k))
	}
	for _, ver := range []int{-1, 0, len(k.Edits), len(k.Edits) + 1} {
		holdNoVersion(t, why, k, ver)
	}
	for _, e := range []impl.Edit{edit(0, "."), edit(len(k.First.Cells)-1, "5"), edit(-1, ".")} {
		holdNotEdited(t, why, k, e)
	}
	for to := range paintMost + 2 {
		holdNotTold(t, why, k, to)
	}
	for _, w := range []impl.Word{{}, wantWord(1), wantWord(2), wantWord(0), {Kind: 3, From: 1, Lights: make([]int, 4)}, {Kind: 3, From: 1, Lights: make([]int, 2)}, {Kind: 1, To: 1}} {
		if x := impl.KeepHear(k, w); !isNoKeeper(x) {
			t.Fatalf("%s: %s hears %v, and is %s", why, short(k), w, short(x))
		}
	}
}

// wrongFroms is numbers of painters that there are not, of so many.
func wrongFroms(many int) []int {
	return []int{0, many + 1, many + 2, -1, -many, 256 + 1, 1<<32 + 1, math.MinInt, math.MaxInt}
}

// wrongNewest is versions that there are not, of so many edits.
func wrongNewest(newest int) []int {
	return []int{-1, -2, newest + 1, newest + 2, 256, -256, 1 << 32, math.MinInt, math.MaxInt}
}

// partsText is what each painter told, a blank between: the version, and how bright it is; or a stroke.
func partsText(parts []impl.Part) string {
	var words []string
	for _, p := range parts {
		if !p.Has {
			words = append(words, "-")
			continue
		}
		words = append(words, strconv.Itoa(p.Ver)+"="+commasText(p.Lights))
	}
	return strings.Join(words, " ")
}

// shownText is what was shown, a blank between: the version, and its picture.
func shownText(shown []impl.Shown) string {
	var words []string
	for _, s := range shown {
		words = append(words, strconv.Itoa(s.Ver)+"="+commasText(s.Pic))
	}
	return strings.Join(words, " ")
}

// commasText is numbers with commas between.
func commasText(list []int) string {
	return strings.ReplaceAll(lightsText(list), " ", ",")
}

// holdKeeper fails unless a keeper has this: the first grid, the edits, what was told, and what was shown.
func holdKeeper(t *testing.T, k impl.Keeper, first, edits, parts, shown string) {
	t.Helper()
	got := []string{handText(t, k.First), editsText(t, k.Edits), partsText(k.Parts), shownText(k.Shown)}
	if want := []string{first, edits, parts, shown}; !slices.Equal(got, want) {
		t.Fatalf("the keeper is %q, not %q", got, want)
	}
}
