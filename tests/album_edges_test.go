package tests

import (
	"strings"
	"testing"

	"loop.example/lucarne/impl"
)

func TestAlbumsByHand(t *testing.T) {
	a := mustAlbum(t, mustRead(t, "x.\n:5\n"))
	holdAlbum(t, a, "x.\n:5\n", "", "")
	a = mustDo(t, a, edit(3, "."))
	holdAlbum(t, a, "x.\n:.\n", "35", "")
	a = mustDo(t, a, edit(0, "\\"), edit(2, "9"))
	holdAlbum(t, a, "\\.\n9.\n", "35 0x 2:", "")
	a = mustBack(t, a, 1)
	holdAlbum(t, a, "\\.\n:.\n", "35 0x", "29")
	a = mustBack(t, a, 1)
	holdAlbum(t, a, "x.\n:.\n", "35", "29 0\\")
	a = mustOn(t, a, 1)
	holdAlbum(t, a, "\\.\n:.\n", "35 0x", "29")
	a = mustBack(t, a, 2)
	holdAlbum(t, a, "x.\n:5\n", "", "29 0\\ 3.")
	holdNotBack(t, a)
	a = mustOn(t, a, 3)
	holdAlbum(t, a, "\\.\n9.\n", "35 0x 2:", "")
	holdNotOn(t, a)
	// What was undone is forgotten behind another edit.
	a = mustDo(t, mustBack(t, a, 2), edit(1, "#"))
	holdAlbum(t, a, "x#\n:.\n", "35 1.", "")
	holdNotOn(t, a)
}

func TestAlbumScenesByHand(t *testing.T) {
	a := mustDo(t, mustAlbum(t, mustRead(t, "./5\n")), edit(1, "."), edit(0, "9"))
	holdScene(t, a.Scene, "9.5\n", "576:0 0:1 320:2 320:2 320:2 0:1 576:0 576:0")
	a = mustBack(t, a, 1)
	holdScene(t, a.Scene, "..5\n", "0:0 0:1 320:2 320:2 320:2 0:1 0:0 320:0,1,2")
	a = mustBack(t, a, 1)
	holdScene(t, a.Scene, "./5\n", "0:0 0:0,1 320:2 320:2 320:2 320:1,2 0:0 0:0,1")
	a = mustOn(t, a, 2)
	holdScene(t, a.Scene, "9.5\n", "576:0 0:1 320:2 320:2 320:2 0:1 576:0 576:0")
}

func TestAlbumsOfOneCell(t *testing.T) {
	for _, from := range signedCells() {
		first := string(rune(from.sign))
		for _, to := range signedCells() {
			then := string(rune(to.sign))
			a := mustDo(t, mustAlbum(t, impl.Grid{Wide: 1, Cells: []impl.Cell{from.cell}}), impl.Edit{At: 0, Cell: to.cell})
			holdAlbum(t, a, then+"\n", "0"+first, "")
			a = mustBack(t, a, 1)
			holdAlbum(t, a, first+"\n", "", "0"+then)
			a = mustOn(t, a, 1)
			holdAlbum(t, a, then+"\n", "0"+first, "")
		}
	}
}

func TestNothingInPastOrNext(t *testing.T) {
	d := &dice{67}
	for _, g := range albumGrids(t) {
		holdNotBack(t, handAlbum(g, nil, nil))
		holdNotOn(t, handAlbum(g, nil, nil))
		for _, many := range []int{1, albumMost} {
			holdNotBack(t, handAlbum(g, nil, rolledEdits(d, g, many)))
			holdNotOn(t, handAlbum(g, rolledEdits(d, g, many), nil))
			// An empty list is none, too.
			holdNotBack(t, handAlbum(g, []impl.Edit{}, rolledEdits(d, g, many)))
			holdNotOn(t, handAlbum(g, rolledEdits(d, g, many), []impl.Edit{}))
		}
	}
}

// oneByOne is the edits that put a lamp of 9 to so many places, from the first on.
func oneByOne(many int) []impl.Edit {
	var list []impl.Edit
	for at := range many {
		list = append(list, edit(at, "9"))
	}
	return list
}

func TestTheEldestIsForgotten(t *testing.T) {
	if impl.AlbumMax != albumMost {
		t.Fatalf("AlbumMax is %d", impl.AlbumMax)
	}
	free := ".....\n.....\n.....\n.....\n.....\n"
	twelve := "0. 1. 2. 3. 4. 5. 6. 7. 8. 9. 10. 11."
	a := mustDo(t, mustAlbum(t, mustRead(t, free)), oneByOne(12)...)
	holdAlbum(t, a, "99999\n99999\n99...\n.....\n.....\n", twelve, "")
	holdAlbum(t, mustBack(t, a, 12), free, "", "119 109 99 89 79 69 59 49 39 29 19 09")
	// One more, and what undoes the first one goes, and then the second one.
	a = mustDo(t, a, edit(12, "9"))
	holdAlbum(t, a, "99999\n99999\n999..\n.....\n.....\n", strings.TrimPrefix(twelve, "0. ")+" 12.", "")
	a = mustDo(t, a, edit(13, "8"))
	holdAlbum(t, a, "99999\n99999\n9998.\n.....\n.....\n", strings.TrimPrefix(twelve, "0. 1. ")+" 12. 13.", "")
	last := mustBack(t, a, 12)
	holdAlbum(t, last, "99...\n.....\n.....\n.....\n.....\n", "", "138 129 119 109 99 89 79 69 59 49 39 29")
	holdNotBack(t, last)
	holdAlbum(t, mustOn(t, last, 12), "99999\n99999\n9998.\n.....\n.....\n", strings.TrimPrefix(twelve, "0. 1. ")+" 12. 13.", "")
}

func TestTheEldestIsForgottenAtOnePlace(t *testing.T) {
	a := mustAlbum(t, mustRead(t, "#\n"))
	for _, sign := range "123456789:./xz\\" {
		a = mustDo(t, a, edit(0, string(sign)))
	}
	holdAlbum(t, a, "\\\n", "03 04 05 06 07 08 09 0: 0. 0/ 0x 0z", "")
	holdAlbum(t, mustBack(t, a, 12), "3\n", "", "0\\ 0z 0x 0/ 0. 0: 09 08 07 06 05 04")
}

func TestNoEldestIsForgottenAhead(t *testing.T) {
	for many := range albumMost + 1 {
		a := mustDo(t, mustAlbum(t, mustRead(t, "...\n...\n...\n...\n")), oneByOne(many)...)
		if len(a.Past) != many || len(a.Past) > 0 && a.Past[0] != edit(0, ".") {
			t.Fatalf("behind %d edits Past is %v", many, a.Past)
		}
	}
}

func TestNextIsFull(t *testing.T) {
	d := &dice{68}
	for _, g := range albumGrids(t) {
		for _, past := range []int{0, 1, albumMost} {
			full := handAlbum(g, rolledEdits(d, g, past), rolledEdits(d, g, albumMost))
			if !impl.AlbumOk(full) {
				t.Fatalf("not ok: %v", full)
			}
			holdNotBack(t, full)
			// It is no matter for an edit.
			if x := mustDo(t, full, edit(0, "7")); len(x.Next) != 0 {
				t.Fatalf("%v with an edit is %v", full, x)
			}
			if past == 0 {
				continue
			}
			room := handAlbum(g, full.Past, full.Next[:albumMost-1])
			x := mustBack(t, room, 1)
			if want, _ := handBack(room); !sameAlbum(x, want) || len(x.Next) != albumMost {
				t.Fatalf("%v back is %v", room, x)
			}
			holdNotBack(t, x)
		}
	}
}

func TestPastIsFull(t *testing.T) {
	d := &dice{69}
	for _, g := range albumGrids(t) {
		for _, next := range []int{0, 1, albumMost} {
			full := handAlbum(g, rolledEdits(d, g, albumMost), rolledEdits(d, g, next))
			if !impl.AlbumOk(full) {
				t.Fatalf("not ok: %v", full)
			}
			// AlbumOn forgets nothing: it cannot be.
			holdNotOn(t, full)
			if next == 0 {
				continue
			}
			room := handAlbum(g, full.Past[1:], full.Next)
			x := mustOn(t, room, 1)
			if want, _ := handOn(room); !sameAlbum(x, want) || len(x.Past) != albumMost {
				t.Fatalf("%v on is %v", room, x)
			}
			holdNotOn(t, x)
		}
	}
}

func TestWhatIsThereAlreadyIsDone(t *testing.T) {
	a := mustDo(t, mustAlbum(t, mustRead(t, "x5\n")), edit(1, "5"), edit(0, "x"))
	holdAlbum(t, a, "x5\n", "15 0x", "")
	a = mustBack(t, a, 1)
	holdAlbum(t, a, "x5\n", "15", "0x")
	a = mustOn(t, a, 1)
	holdAlbum(t, a, "x5\n", "15 0x", "")
	// Though nothing is another one, what could be done again is forgotten, and so is the eldest.
	holdAlbum(t, mustDo(t, mustBack(t, a, 2), edit(1, "5")), "x5\n", "15", "")
	a = mustDo(t, mustAlbum(t, mustRead(t, ".\n")), edit(0, "#"))
	for range albumMost {
		a = mustDo(t, a, edit(0, "#"))
	}
	holdAlbum(t, a, "#\n", strings.TrimSuffix(strings.Repeat("0# ", 12), " "), "")
	holdAlbum(t, mustBack(t, a, 12), "#\n", "", strings.TrimSuffix(strings.Repeat("0# ", 12), " "))
}

func TestAlbumEditsOfOnePlace(t *testing.T) {
	a := mustDo(t, mustAlbum(t, mustRead(t, ".:\n")), edit(1, "3"), edit(1, "/"))
	holdAlbum(t, a, "./\n", "1: 13", "")
	a = mustBack(t, a, 1)
	holdAlbum(t, a, ".3\n", "1:", "1/")
	a = mustBack(t, a, 1)
	holdAlbum(t, a, ".:\n", "", "1/ 13")
	holdAlbum(t, mustOn(t, a, 2), "./\n", "1: 13", "")
	// The second one puts back what was there.
	a = mustDo(t, mustAlbum(t, mustRead(t, ".:\n")), edit(1, "3"), edit(1, ":"))
	holdAlbum(t, a, ".:\n", "1: 13", "")
	holdAlbum(t, mustBack(t, a, 1), ".3\n", "1:", "1:")
}

func TestAlbumEditsOfFirstPlaceAndLast(t *testing.T) {
	a := mustDo(t, mustAlbum(t, mustRead(t, "./\nz#\n")), edit(0, "9"), edit(3, ":"))
	holdAlbum(t, a, "9/\nz:\n", "0. 3#", "")
	holdAlbum(t, mustBack(t, a, 2), "./\nz#\n", "", "3: 09")
	for _, g := range albumGrids(t) {
		for _, at := range []int{0, len(g.Cells) - 1} {
			a := handAlbum(g, nil, nil)
			x := mustDo(t, a, edit(at, "7"))
			if !sameAlbum(x, handDo(a, edit(at, "7"))) {
				t.Fatalf("%v with 7 at %d is %v", g, at, x)
			}
			if back := mustBack(t, x, 1); !sameScene(back.Scene, a.Scene) || back.Next[0] != edit(at, "7") {
				t.Fatalf("%v with 7 at %d, and back, is %v", g, at, back)
			}
		}
	}
}

func TestTheLastIsDoneFirst(t *testing.T) {
	// Edits that no AlbumDo laid there are done as they are, the last one first, and what undoes them is what is there.
	a := impl.Album{Scene: mustScene(t, mustRead(t, "...\n")), Past: []impl.Edit{edit(0, "1"), edit(1, "2")}, Next: []impl.Edit{edit(2, "3"), edit(0, "4")}}
	holdAlbum(t, mustBack(t, a, 1), ".2.\n", "01", "23 04 1.")
	holdAlbum(t, mustBack(t, a, 2), "12.\n", "", "23 04 1. 0.")
	holdAlbum(t, mustOn(t, a, 1), "4..\n", "01 12 0.", "23")
	holdAlbum(t, mustOn(t, a, 2), "4.3\n", "01 12 0. 2.", "")
	holdAlbum(t, mustDo(t, a, edit(1, "#")), ".#.\n", "01 12 1.", "")
}
