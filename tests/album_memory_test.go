package tests

import (
	"slices"
	"testing"

	"loop.example/lucarne/impl"
)

// lendAlbum is an album all of whose lists lie amid longer ones.
func lendAlbum(to *loan, a impl.Album) impl.Album {
	return impl.Album{Scene: lendScene(to, a.Scene), Past: lendEdits(to, a.Past), Next: lendEdits(to, a.Next)}
}

// albumAnswer is what is answered of an album.
type albumAnswer struct {
	album impl.Album
	ok    bool
}

func (a albumAnswer) copied() albumAnswer {
	return albumAnswer{copyAlbum(a.album), a.ok}
}

func (a albumAnswer) same(other albumAnswer) bool {
	return a.ok == other.ok && sameAlbum(a.album, other.album)
}

// spoil writes over all lists of an answer, spare room included, and fails if two of them share any.
func (a albumAnswer) spoil(t *testing.T, g impl.Grid) {
	t.Helper()
	past, next := slices.Clone(a.album.Past), slices.Clone(a.album.Next)
	sceneAnswer{scene: a.album.Scene}.spoil(t, g)
	if !slices.Equal(a.album.Past, past) {
		t.Fatalf("%v: Past changes with the scene", g)
	}
	spoilAll(a.album.Past, impl.Edit{At: -9})
	if !slices.Equal(a.album.Next, next) {
		t.Fatalf("%v: Next changes with the scene, or with Past", g)
	}
	past = slices.Clone(a.album.Past)
	spoilAll(a.album.Next, impl.Edit{At: -10})
	if !slices.Equal(a.album.Past, past) {
		t.Fatalf("%v: Past changes with Next", g)
	}
}

// albumAsks is all that is asked of an album.
func albumAsks(g impl.Grid) map[string]func(impl.Album) albumAnswer {
	last := len(g.Cells) - 1
	do := func(e impl.Edit) func(impl.Album) albumAnswer {
		return func(a impl.Album) albumAnswer {
			x, ok := impl.AlbumDo(a, e)
			return albumAnswer{x, ok}
		}
	}
	return map[string]func(impl.Album) albumAnswer{
		"AlbumNew": func(a impl.Album) albumAnswer {
			x, ok := impl.AlbumNew(a.Scene.Grid)
			return albumAnswer{x, ok}
		},
		"AlbumOk": func(a impl.Album) albumAnswer { return albumAnswer{ok: impl.AlbumOk(a)} },
		"AlbumBack": func(a impl.Album) albumAnswer {
			x, ok := impl.AlbumBack(a)
			return albumAnswer{x, ok}
		},
		"AlbumOn": func(a impl.Album) albumAnswer {
			x, ok := impl.AlbumOn(a)
			return albumAnswer{x, ok}
		},
		"AlbumDo, first":         do(edit(0, "#")),
		"AlbumDo, last":          do(edit(last, "9")),
		"AlbumDo, what is there": do(impl.Edit{At: last, Cell: g.Cells[last]}),
		"AlbumDo, past the end":  do(edit(last+1, ".")),
		"AlbumDo, a wrong cell":  do(impl.Edit{At: 0, Cell: impl.Cell{Kind: 8}}),
	}
}

func TestAlbumsAreNewMemory(t *testing.T) {
	d := &dice{72}
	grids := slices.Concat(allGrids(1, 1)[:8], roundGrids(t), wholeGrids(), gridsOf(72, 1, ".#/\\xz:159"), []impl.Grid{mustRead(t, "###\n#.#\n###\n")})
	for _, g := range grids {
		for _, fill := range [][2]int{{0, 0}, {1, 1}, {5, 0}, {0, 5}, {albumMost - 1, 3}, {3, albumMost - 1}, {albumMost, albumMost}} {
			a := handAlbum(g, rolledEdits(d, g, fill[0]), rolledEdits(d, g, fill[1]))
			for name, ask := range albumAsks(g) {
				holdNewAnswer(t, name, g, a, lendAlbum, ask)
			}
		}
	}
}

func TestWrongAlbumsAreNotWritten(t *testing.T) {
	d := &dice{73}
	g := mustRead(t, "x.\n:5\n")
	full := rolledEdits(d, g, albumMost+1)
	wrong := []impl.Album{handAlbum(g, full, nil), handAlbum(g, nil, full), handAlbum(g, full[:2], []impl.Edit{edit(4, ".")}), handAlbum(g, []impl.Edit{{At: 0, Cell: impl.Cell{Kind: 8}}}, full[:2])}
	for _, s := range wrongScenes(g) {
		wrong = append(wrong, impl.Album{Scene: s, Past: full[:3], Next: full[3:6]})
	}
	for _, a := range wrong {
		holdNotWritten(t, "a wrong album", a, lendAlbum, holdNoAlbum)
	}
}

func TestAlbumsAreTheSameEveryTime(t *testing.T) {
	d := &dice{74}
	for _, g := range slices.Concat(roundGrids(t), wholeGrids()) {
		a := handAlbum(g, rolledEdits(d, g, albumMost-1), rolledEdits(d, g, 4))
		e := rolledEdits(d, g, 1)[0]
		done := handDo(a, e)
		back, _ := handBack(a)
		on, _ := handOn(a)
		for range 40 {
			if x := mustDo(t, a, e); !sameAlbum(x, done) {
				t.Fatalf("%v with %v is %v, not %v", a, e, x, done)
			}
			if x := mustBack(t, a, 1); !sameAlbum(x, back) {
				t.Fatalf("%v back is %v, not %v", a, x, back)
			}
			if x := mustOn(t, a, 1); !sameAlbum(x, on) {
				t.Fatalf("%v on is %v, not %v", a, x, on)
			}
		}
	}
}
