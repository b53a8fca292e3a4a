package tests

import (
	"slices"
	"testing"

	"loop.example/lucarne/impl"
)

func TestAlbumsOfWrongGrids(t *testing.T) {
	for why, g := range wrongGrids() {
		if a, ok := impl.AlbumNew(g); ok || !isNoAlbum(a) {
			t.Errorf("%s: %v, %v", why, a, ok)
		}
		free := []impl.Edit{edit(0, ".")}
		for _, many := range []int{0, 4, 10, 20} {
			s := impl.Scene{Grid: g, Lights: make([]int, many), Feet: slices.Repeat([][]int{{0}}, many)}
			holdNoAlbum(t, why, impl.Album{Scene: s})
			holdNoAlbum(t, why, impl.Album{Scene: s, Past: free, Next: free})
		}
	}
	holdNoAlbum(t, "nothing", impl.Album{})
}

func TestAlbumsOfWrongScenes(t *testing.T) {
	for _, text := range []string{"5\n", "x.\n:5\n", "/\\..\\\n\\x.1.\n..9..\n#..z.\n\\.:./\n"} {
		s := mustScene(t, mustRead(t, text))
		past, next := []impl.Edit{edit(0, "."), edit(0, "x")}, []impl.Edit{edit(0, "3")}
		for why, wrong := range wrongChanges() {
			for k := range s.Lights {
				x := copyScene(s)
				if !wrong(&x, k) {
					continue
				}
				holdNoAlbum(t, why, impl.Album{Scene: x})
				holdNoAlbum(t, why, impl.Album{Scene: x, Past: past, Next: next})
				// What would mend the grid does not mend the album.
				holdNotDo(t, impl.Album{Scene: x}, impl.Edit{At: 0, Cell: s.Grid.Cells[0]})
			}
		}
	}
}

func TestOneMoreThanAlbumMax(t *testing.T) {
	d := &dice{70}
	for _, g := range albumGrids(t) {
		many := rolledEdits(d, g, albumMost+1)
		for _, few := range [][]impl.Edit{nil, many[:1], many[:albumMost], many} {
			holdNoAlbum(t, "too many in Past", handAlbum(g, many, few))
			holdNoAlbum(t, "too many in Next", handAlbum(g, few, many))
		}
		if a := handAlbum(g, many[1:], many[1:]); !impl.AlbumOk(a) {
			t.Fatalf("not ok: %v", a)
		}
	}
	long := make([]impl.Edit, 100000)
	s := mustScene(t, mustRead(t, ".\n"))
	holdNoAlbum(t, "very many in Past", impl.Album{Scene: s, Past: long})
	holdNoAlbum(t, "very many in Next", impl.Album{Scene: s, Next: long})
	// As many edits as SceneMany may do are too many here.
	holdNoAlbum(t, "20 in Past", impl.Album{Scene: s, Past: long[:20]})
	holdNoAlbum(t, "20 in Next", impl.Album{Scene: s, Next: long[:20]})
}

func TestAlbumsWithWrongEdits(t *testing.T) {
	d := &dice{71}
	for _, g := range slices.Concat(allGrids(1, 1)[:8], roundGrids(t), gridsOf(71, 1, ".#/\\xz:159")[:12]) {
		right := rolledEdits(d, g, albumMost-1)
		for _, e := range wrongEdits(g) {
			for _, at := range []int{0, 5, albumMost - 1} {
				wrong := slices.Insert(slices.Clone(right), at, e)
				holdNoAlbum(t, "a wrong edit in Past", handAlbum(g, wrong, right))
				holdNoAlbum(t, "a wrong edit in Next", handAlbum(g, right, wrong))
			}
			holdNoAlbum(t, "a wrong edit alone in Past", handAlbum(g, []impl.Edit{e}, nil))
			holdNoAlbum(t, "a wrong edit alone in Next", handAlbum(g, nil, []impl.Edit{e}))
		}
	}
}

func TestAlbumOfAPlaceInSpareRoom(t *testing.T) {
	// A cell that lies behind the grid's is none of its places.
	s := lendScene(&loan{}, mustScene(t, mustRead(t, "..\n..\n")))
	holdNoAlbum(t, "a place in spare room", impl.Album{Scene: s, Past: []impl.Edit{edit(4, ".")}})
	holdNoAlbum(t, "a place in spare room", impl.Album{Scene: s, Next: []impl.Edit{edit(4, ".")}})
	holdNotDo(t, impl.Album{Scene: s}, edit(4, "."))
	// Nor is an edit behind those of Past, or Next, one of them.
	past, next := []impl.Edit{edit(0, "#"), edit(9, "#")}[:1], []impl.Edit{edit(1, "#"), edit(9, "#")}[:1]
	a := impl.Album{Scene: s, Past: past, Next: next}
	holdAlbum(t, mustBack(t, a, 1), "#.\n..\n", "", "1# 0.")
	holdAlbum(t, mustOn(t, a, 1), ".#\n..\n", "0# 1.", "")
	holdNotBack(t, impl.Album{Scene: s, Past: past[:0]})
	holdNotOn(t, impl.Album{Scene: s, Next: next[:0]})
}
