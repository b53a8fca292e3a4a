package tests

import (
	"slices"
	"strings"
	"testing"

	"loop.example/lucarne/impl"
)

func TestKeepNames(t *testing.T) {
	if impl.VerMax != 60 || impl.EditFar != 2 {
		t.Fatal("limits are other ones")
	}
}

// threeVersions is a keeper of two painters, with a lamp of 5, of 9, and of 1, of which nothing was told or shown.
func threeVersions(t *testing.T) impl.Keeper {
	t.Helper()
	k := mustKeepEdit(t, mustKeep(t, mustRead(t, "x.\n:5\n"), 2), edit(3, "9"), edit(3, "1"))
	holdKeeper(t, k, "x.\n:5\n", "39 31", "- -", "")
	return k
}

// What the two painters of threeVersions tell of each version, and its picture, written out by hand.
const (
	one0, two0, pic0 = "0=0,0,320,160", "0=320,320,0,0", "0=0,320,0,320,320,0,160,0"
	one1, two1, pic1 = "1=0,0,576,288", "1=576,576,0,0", "1=0,576,0,576,576,0,288,0"
	one2, two2, pic2 = "2=0,0,64,32", "2=64,64,0,0", "2=0,64,0,64,64,0,32,0"
)

// handWord is what one of the two painters of threeVersions tells of a version, written out by hand.
func handWord(id, ver int) impl.Word {
	lights := [][][]int{
		{{0, 0, 320, 160}, {320, 320, 0, 0}},
		{{0, 0, 576, 288}, {576, 576, 0, 0}},
		{{0, 0, 64, 32}, {64, 64, 0, 0}},
	}
	return impl.Word{Kind: 3, From: id, Ver: ver, Lights: lights[ver][id-1]}
}

// holdToldShown fails unless this was told and shown of threeVersions.
func holdToldShown(t *testing.T, k impl.Keeper, parts, shown string) {
	t.Helper()
	holdKeeper(t, k, "x.\n:5\n", "39 31", parts, shown)
	if !impl.KeepOk(k) {
		t.Fatalf("not ok: %v", k)
	}
}

func TestKeeperByHand(t *testing.T) {
	k := mustKeep(t, mustRead(t, "x.\n:5\n"), 2)
	holdKeeper(t, k, "x.\n:5\n", "", "- -", "")
	k = mustKeepHear(t, k, handWord(1, 0))
	holdKeeper(t, k, "x.\n:5\n", "", one0+" -", "")
	k = mustKeepEdit(t, k, edit(3, "9"))
	holdKeeper(t, k, "x.\n:5\n", "39", one0+" -", "")
	// The first painter is one behind, the second one has told nothing.
	if w := mustKeepTell(t, k, 1); !sameWord(w, impl.Word{Kind: 2, To: 1, Ver: 1, Edit: edit(3, "9")}) {
		t.Fatal(w)
	}
	if w := mustKeepTell(t, k, 2); !sameWord(w, impl.Word{Kind: 1, To: 2, Ver: 1, Grid: mustRead(t, "x.\n:9\n")}) {
		t.Fatal(w)
	}
	k = mustKeepHear(t, k, handWord(2, 1))
	holdKeeper(t, k, "x.\n:5\n", "39", one0+" "+two1, "")
	k = mustKeepHear(t, k, handWord(1, 1))
	holdKeeper(t, k, "x.\n:5\n", "39", one1+" "+two1, pic1)
	k = mustKeepEdit(t, k, edit(3, "1"))
	holdToldShown(t, k, one1+" "+two1, pic1)
	k = mustKeepHear(t, k, handWord(1, 2), handWord(2, 2))
	holdToldShown(t, k, one2+" "+two2, pic1+" "+pic2)
}

func TestVersionsByHand(t *testing.T) {
	k := threeVersions(t)
	for ver, want := range []string{"x.\n:5\n", "x.\n:9\n", "x.\n:1\n"} {
		if text := handText(t, mustKeepGrid(t, k, ver)); text != want {
			t.Fatalf("the version %d is %q", ver, text)
		}
	}
	holdNoVersion(t, "below the first", k, -1)
	holdNoVersion(t, "one more than the newest", k, 3)
	// A place may be put anew, also with what is there.
	k = mustKeepEdit(t, k, edit(3, "1"), edit(0, "#"), edit(3, "5"))
	for ver, want := range []string{"x.\n:5\n", "x.\n:9\n", "x.\n:1\n", "x.\n:1\n", "#.\n:1\n", "#.\n:5\n"} {
		if text := handText(t, mustKeepGrid(t, k, ver)); text != want {
			t.Fatalf("the version %d is %q", ver, text)
		}
	}
}

func TestElderPart(t *testing.T) {
	// What a painter told last is its part, though it is of an elder version: it may have fallen, or the word is late.
	k := mustKeepHear(t, threeVersions(t), handWord(1, 2), handWord(1, 0))
	holdToldShown(t, k, one0+" -", "")
	if w := mustKeepTell(t, k, 1); !sameWord(w, impl.Word{Kind: 2, To: 1, Ver: 1, Edit: edit(3, "9")}) {
		t.Fatal(w)
	}
	k = mustKeepHear(t, k, handWord(1, 1))
	holdToldShown(t, k, one1+" -", "")
	if w := mustKeepTell(t, k, 1); !sameWord(w, impl.Word{Kind: 2, To: 1, Ver: 2, Edit: edit(3, "1")}) {
		t.Fatal(w)
	}
}

func TestOneVersionByAnElderPart(t *testing.T) {
	k := mustKeepHear(t, threeVersions(t), handWord(1, 2), handWord(2, 1))
	holdToldShown(t, k, one2+" "+two1, "")
	k = mustKeepHear(t, k, handWord(1, 1))
	holdToldShown(t, k, one1+" "+two1, pic1)
	k = mustKeepHear(t, k, handWord(1, 2), handWord(2, 2))
	holdToldShown(t, k, one2+" "+two2, pic1+" "+pic2)
	// So is it, if a lesser one was shown already.
	k = mustKeepHear(t, threeVersions(t), handWord(1, 0), handWord(2, 0), handWord(1, 2), handWord(2, 1), handWord(1, 1))
	holdToldShown(t, k, one1+" "+two1, pic0+" "+pic1)
}

func TestShownAlreadyOrLesser(t *testing.T) {
	k := mustKeepHear(t, threeVersions(t), handWord(1, 1), handWord(2, 1))
	holdToldShown(t, k, one1+" "+two1, pic1)
	holdKeepStays(t, "shown already", k, handWord(1, 1))
	holdKeepStays(t, "shown already", k, handWord(2, 1))
	k = mustKeepHear(t, k, wantWord(1), handWord(1, 1))
	holdToldShown(t, k, one1+" "+two1, pic1)
	k = mustKeepHear(t, k, handWord(1, 0), handWord(2, 0))
	holdToldShown(t, k, one0+" "+two0, pic1)
	k = mustKeepHear(t, k, handWord(1, 1), handWord(2, 1))
	holdToldShown(t, k, one1+" "+two1, pic1)
	k = mustKeepHear(t, k, handWord(1, 2), handWord(2, 2))
	holdToldShown(t, k, one2+" "+two2, pic1+" "+pic2)
	k = mustKeepHear(t, k, handWord(1, 1), handWord(2, 1))
	holdToldShown(t, k, one1+" "+two1, pic1+" "+pic2)
}

func TestOneWantsTheWholeWhenOthersTold(t *testing.T) {
	for _, g := range keepGrids(t) {
		edits := rolledEdits(&dice{82}, g, 3)
		for wants := 1; wants <= 3; wants++ {
			told := []int{3, 3, 3}
			told[wants-1] = 2
			k := mustKeepHear(t, handKeeper(g, edits, told, []int{1}), wantWord(wants))
			if len(k.Shown) != 1 || !samePart(k.Parts[wants-1], impl.Part{}) {
				t.Fatalf("%v: %d wants the whole, and it is %v", g, wants, k)
			}
			if w := mustKeepTell(t, k, wants); !sameWord(w, impl.Word{Kind: 1, To: wants, Ver: 3, Grid: handPut(g, edits...)}) {
				t.Fatalf("%v: %d is told %v", g, wants, w)
			}
			// Once more it changes nothing, and its part then shows what all have.
			holdKeepStays(t, "wants the whole once more", k, wantWord(wants))
			x := mustKeepHear(t, k, truePart(k, wants, 3))
			if want := handKeeper(g, edits, []int{3, 3, 3}, []int{1, 3}); !sameKeeper(x, want) {
				t.Fatalf("%v becomes %v", k, x)
			}
		}
	}
	// A painter alone that wants the whole leaves nothing of which all have told.
	k := handKeeper(mustRead(t, "5\n"), nil, []int{0}, nil)
	holdKeeper(t, mustKeepHear(t, k, wantWord(1)), "5\n", "", "-", "")
}

func TestHowFarBehind(t *testing.T) {
	g := mustRead(t, "....\n")
	edits := []impl.Edit{edit(0, "1"), edit(1, "2"), edit(2, "3"), edit(3, "4")}
	whole := impl.Word{Kind: 1, To: 2, Ver: 4, Grid: mustRead(t, "1234\n")}
	for ver, want := range map[int]impl.Word{
		-1: whole,
		0:  whole,
		1:  whole,
		2:  {Kind: 2, To: 2, Ver: 3, Edit: edit(2, "3")},
		3:  {Kind: 2, To: 2, Ver: 4, Edit: edit(3, "4")},
		4:  whole,
	} {
		// What others told is no matter.
		for _, others := range []int{-1, 0, 3, 4} {
			k := handKeeper(g, edits, []int{others, ver, others}, nil)
			if w := mustKeepTell(t, k, 2); !sameWord(w, want) {
				t.Fatalf("of %d %v is told, not %v", ver, w, want)
			}
		}
	}
	// With few versions the first one is near, and is told the whole just if it is the newest, or nothing was told.
	k := handKeeper(g, edits[:2], []int{0, -1, 2}, nil)
	if w := mustKeepTell(t, k, 1); !sameWord(w, impl.Word{Kind: 2, To: 1, Ver: 1, Edit: edit(0, "1")}) {
		t.Fatal(w)
	}
	for to := 2; to <= 3; to++ {
		if w := mustKeepTell(t, k, to); !sameWord(w, impl.Word{Kind: 1, To: to, Ver: 2, Grid: mustRead(t, "12..\n")}) {
			t.Fatal(w)
		}
	}
	k = handKeeper(g, nil, []int{0, -1}, nil)
	for to := 1; to <= 2; to++ {
		if w := mustKeepTell(t, k, to); !sameWord(w, impl.Word{Kind: 1, To: to, Grid: g}) {
			t.Fatal(w)
		}
	}
}

func TestKeepersOfOneCell(t *testing.T) {
	for _, from := range signedCells() {
		first := string(rune(from.sign)) + "\n"
		for _, to := range signedCells() {
			k := mustKeepEdit(t, mustKeep(t, impl.Grid{Wide: 1, Cells: []impl.Cell{from.cell}}, 3), impl.Edit{At: 0, Cell: to.cell})
			for ver, c := range []impl.Cell{from.cell, to.cell} {
				if g := mustKeepGrid(t, k, ver); g.Wide != 1 || !slices.Equal(g.Cells, []impl.Cell{c}) {
					t.Fatalf("the version %d is %v", ver, g)
				}
			}
			// The first painter has two of the four sights.
			light := 64 * to.cell.Light
			for id, many := range []int{2, 1, 1} {
				k = mustKeepHear(t, k, impl.Word{Kind: 3, From: id + 1, Ver: 1, Lights: slices.Repeat([]int{light}, many)})
			}
			n := commasText([]int{light})
			edits := "0" + string(rune(to.sign))
			holdKeeper(t, k, first, edits, "1="+n+","+n+" 1="+n+" 1="+n, "1="+strings.Join([]string{n, n, n, n}, ","))
		}
	}
}

func TestKeepersUpToVerMax(t *testing.T) {
	d := &dice{83}
	for _, g := range slices.Concat(allGrids(1, 1)[5:8], roundGrids(t)[:4], gridsOf(83, 1, ".#/\\xz:159")[10:14]) {
		edits := rolledEdits(d, g, verMost+1)
		k := mustKeep(t, g, 2)
		for newest, e := range edits[:verMost] {
			holdNoVersion(t, "one more than the newest", k, newest+1)
			k = mustKeepEdit(t, k, e)
		}
		if !sameKeeper(k, handKeeper(g, edits[:verMost], []int{-1, -1}, nil)) {
			t.Fatalf("behind VerMax edits it is %v", k)
		}
		holdNotEdited(t, "more than VerMax", k, edits[verMost])
		if x := mustKeepGrid(t, k, verMost); !sameGrid(x, handPut(g, edits[:verMost]...)) {
			t.Fatalf("the version VerMax is %v", x)
		}
		holdNoVersion(t, "more than VerMax", k, verMost+1)
		// The last version is told and shown as all others are.
		k = mustKeepHear(t, k, truePart(k, 1, verMost-1), truePart(k, 2, verMost))
		if w := mustKeepTell(t, k, 1); !sameWord(w, impl.Word{Kind: 2, To: 1, Ver: verMost, Edit: edits[verMost-1]}) {
			t.Fatal(w)
		}
		k = mustKeepHear(t, k, truePart(k, 1, verMost))
		if !sameKeeper(k, handKeeper(g, edits[:verMost], []int{verMost, verMost}, []int{verMost})) {
			t.Fatalf("of the version VerMax it shows %v", k.Shown)
		}
	}
}

func TestAllVersionsShown(t *testing.T) {
	d := &dice{84}
	for _, g := range []impl.Grid{mustRead(t, "5\n"), mustRead(t, "x.\n:5\n")} {
		edits := rolledEdits(d, g, verMost)
		k := mustKeep(t, g, 1)
		for ver := range verMost + 1 {
			if ver > 0 {
				k = mustKeepEdit(t, k, edits[ver-1])
			}
			k = mustKeepHear(t, k, truePart(k, 1, ver))
		}
		if !sameKeeper(k, handKeeper(g, edits, []int{verMost}, countUp(verMost+1))) {
			t.Fatalf("it shows %v", k.Shown)
		}
		// An elder version is not shown any more.
		for ver := range verMost + 1 {
			if x := mustKeepHear(t, k, truePart(k, 1, ver)); len(x.Shown) != verMost+1 || x.Parts[0].Ver != ver {
				t.Fatalf("of %d it shows %v", ver, x.Shown)
			}
		}
	}
}

func TestAllToldButNotShown(t *testing.T) {
	// Such a keeper is ok, though no KeepHear leads there; just a word that is heard lets it show.
	for _, told := range [][]int{{1}, {1, 1}, {1, 1, 1}} {
		g := mustRead(t, "x.\n:5\n")
		k := handKeeper(g, []impl.Edit{edit(3, "9"), edit(1, "#")}, told, []int{0})
		if !impl.KeepOk(k) {
			t.Fatalf("not ok: %v", k)
		}
		for _, w := range noWords(k) {
			holdKeepStays(t, "no word to a keeper", k, w)
		}
		for id := range told {
			if x := mustKeepHear(t, k, truePart(k, id+1, 1)); !sameKeeper(x, handKeeper(g, k.Edits, told, []int{0, 1})) {
				t.Fatalf("%v becomes %v", k, x)
			}
		}
	}
}

func TestPartThatIsNotTrue(t *testing.T) {
	// How bright it is there is the painter's to say: it is its part, and is shown, though the keeper is then not ok.
	k := mustKeepHear(t, threeVersions(t), handWord(1, 1))
	x := impl.KeepHear(k, impl.Word{Kind: 3, From: 2, Ver: 1, Lights: []int{1, -2, 3, 4}})
	holdKeeper(t, x, "x.\n:5\n", "39 31", one1+" 1=1,-2,3,4", "1=0,1,0,-2,576,3,288,4")
	holdNoKeeper(t, "a part that is not true", x)
	x = impl.KeepHear(k, impl.Word{Kind: 3, From: 2, Ver: 2, Lights: []int{576, 576, 0, 0}})
	holdKeeper(t, x, "x.\n:5\n", "39 31", one1+" 2=576,576,0,0", "")
	holdNoKeeper(t, "a part of another version", x)
}

func TestOtherPartsOfAWordDoNotCountToAKeeper(t *testing.T) {
	k := mustKeepHear(t, threeVersions(t), handWord(1, 1), handWord(2, 0))
	for _, to := range []int{-1, 0, 1, 2, 9} {
		w := handWord(2, 1)
		w.To, w.Grid, w.Edit = to, impl.Grid{Wide: -3, Cells: freeCells(2)}, edit(99, "5")
		holdToldShown(t, mustKeepHear(t, k, w), one1+" "+two1, pic1)
		for _, ver := range []int{-1, 0, 2, 99} {
			w.Kind, w.Ver, w.Lights = 4, ver, []int{5}
			holdToldShown(t, mustKeepHear(t, k, w), one1+" -", "")
		}
	}
}

// rolledNet is a keeper and its painters behind rolled words, lost, late and twice, and painters falling.
func rolledNet(t *testing.T, d *dice, k impl.Keeper, painters []impl.Painter, steps int) impl.Keeper {
	t.Helper()
	many := len(painters)
	late := []impl.Word{wantWord(1)}
	for range steps {
		i := d.roll(many)
		switch d.roll(9) {
		case 0:
			painters[i] = empty()
		case 1:
			if len(k.Edits) < verMost {
				k = mustKeepEdit(t, k, rolledEdits(d, k.First, 1)[0])
			}
		case 2:
			k = mustKeepHear(t, k, late[d.roll(len(late))])
		case 3, 4, 5:
			painters[i] = mustHear(t, painters[i], mustKeepTell(t, k, i+1))
		default:
			w := mustTell(t, painters[i], i+1, many)
			late = append(late, w)
			k = mustKeepHear(t, k, w)
		}
		holdTrue(t, k)
	}
	return k
}

func TestKeeperAndPainters(t *testing.T) {
	d := &dice{85}
	shown := 0
	for _, g := range keepGrids(t)[:30] {
		for many := 1; many <= paintMost; many++ {
			painters := slices.Repeat([]impl.Painter{empty()}, many)
			k := rolledNet(t, d, mustKeep(t, g, many), painters, 40)
			shown += len(k.Shown)
			// With nothing lost any more each painter comes to the newest version, and that is shown.
			for range 4 {
				for i := range painters {
					k = mustKeepHear(t, k, mustTell(t, painters[i], i+1, many))
					painters[i] = mustHear(t, painters[i], mustKeepTell(t, k, i+1))
				}
			}
			newest := len(k.Edits)
			want := handGridOf(k, newest)
			for _, p := range painters {
				if !samePainter(p, handPainter(newest, want)) {
					t.Fatalf("%v: a painter has %v", k, p)
				}
			}
			if last := k.Shown[len(k.Shown)-1]; !sameShown(last, impl.Shown{Ver: newest, Pic: handPic(want)}) {
				t.Fatalf("%v: the last that is shown is %v", k, last)
			}
		}
	}
	if shown < 100 {
		t.Fatalf("%d pictures are shown", shown)
	}
}
