package tests

import (
	"slices"
	"strconv"
	"strings"
	"testing"

	"loop.example/lucarne/impl"
)

// albumMost is how much can be undone, as the document has it.
const albumMost = 12

func sameAlbum(a, b impl.Album) bool {
	return sameScene(a.Scene, b.Scene) && slices.Equal(a.Past, b.Past) && slices.Equal(a.Next, b.Next)
}

func isNoAlbum(a impl.Album) bool {
	return isNoScene(a.Scene) && len(a.Past) == 0 && len(a.Next) == 0
}

// copyAlbum is an album that shares nothing with this one.
func copyAlbum(a impl.Album) impl.Album {
	return impl.Album{Scene: copyScene(a.Scene), Past: slices.Clone(a.Past), Next: slices.Clone(a.Next)}
}

// handAlbum is an album of an ok grid with such edits in it, without the program's help.
func handAlbum(g impl.Grid, past, next []impl.Edit) impl.Album {
	return impl.Album{Scene: handScene(g), Past: slices.Clone(past), Next: slices.Clone(next)}
}

// handUndo is what undoes an edit in a grid, without the program's help.
func handUndo(g impl.Grid, e impl.Edit) impl.Edit {
	return impl.Edit{At: e.At, Cell: g.Cells[e.At]}
}

// handDo is an album behind an edit, without the program's help.
func handDo(a impl.Album, e impl.Edit) impl.Album {
	g := a.Scene.Grid
	past := slices.Concat(a.Past, []impl.Edit{handUndo(g, e)})
	if len(past) > albumMost {
		past = past[1:]
	}
	return handAlbum(handPut(g, e), past, nil)
}

// handBack is an album behind AlbumBack, without the program's help; false, if it cannot be.
func handBack(a impl.Album) (impl.Album, bool) {
	last := len(a.Past) - 1
	if last < 0 || len(a.Next) == albumMost {
		return impl.Album{}, false
	}
	g, e := a.Scene.Grid, a.Past[last]
	return handAlbum(handPut(g, e), a.Past[:last], slices.Concat(a.Next, []impl.Edit{handUndo(g, e)})), true
}

// handOn is an album behind AlbumOn, without the program's help; false, if it cannot be.
func handOn(a impl.Album) (impl.Album, bool) {
	last := len(a.Next) - 1
	if last < 0 || len(a.Past) == albumMost {
		return impl.Album{}, false
	}
	g, e := a.Scene.Grid, a.Next[last]
	return handAlbum(handPut(g, e), slices.Concat(a.Past, []impl.Edit{handUndo(g, e)}), a.Next[:last]), true
}

// albumGrids is those of one cell, those at the edges, those in which light goes round, and one of each size with each kind of cell.
func albumGrids(t *testing.T) []impl.Grid {
	return slices.Concat(allGrids(1, 1), roundGrids(t), wholeGrids(), gridsOf(58, 1, ".#/\\xz:159"))
}

// albumFills is how many edits Past and Next have: none, one, some, one less than can be, all that can be.
func albumFills() [][2]int {
	var fills [][2]int
	for _, past := range []int{0, 1, 5, albumMost - 1, albumMost} {
		for _, next := range []int{0, 1, 4, albumMost - 1, albumMost} {
			fills = append(fills, [2]int{past, next})
		}
	}
	return fills
}

// eachAlbum tells an album of each grid, for each number of edits in Past and in Next, with edits rolled.
func eachAlbum(d *dice, grids []impl.Grid, tell func(a impl.Album)) {
	for _, g := range grids {
		for _, fill := range albumFills() {
			tell(handAlbum(g, rolledEdits(d, g, fill[0]), rolledEdits(d, g, fill[1])))
		}
	}
}

// mustAlbum is the album of a grid, which must be ok.
func mustAlbum(t *testing.T, g impl.Grid) impl.Album {
	t.Helper()
	a, ok := impl.AlbumNew(g)
	if !ok {
		t.Fatalf("AlbumNew(%v) is %v, %v", g, a, ok)
	}
	return a
}

// mustDo is an album behind edits, one behind the other, which must be done.
func mustDo(t *testing.T, a impl.Album, list ...impl.Edit) impl.Album {
	t.Helper()
	for _, e := range list {
		x, ok := impl.AlbumDo(a, e)
		if !ok || !impl.AlbumOk(x) {
			t.Fatalf("%v: AlbumDo with %v is %v, %v", a, e, x, ok)
		}
		a = x
	}
	return a
}

// mustGo is an album behind so many steps, which must be.
func mustGo(t *testing.T, a impl.Album, many int, name string, step func(impl.Album) (impl.Album, bool)) impl.Album {
	t.Helper()
	for range many {
		x, ok := step(a)
		if !ok || !impl.AlbumOk(x) {
			t.Fatalf("%v: %s is %v, %v", a, name, x, ok)
		}
		a = x
	}
	return a
}

// mustBack is an album behind so many AlbumBacks, which must be.
func mustBack(t *testing.T, a impl.Album, many int) impl.Album {
	t.Helper()
	return mustGo(t, a, many, "AlbumBack", impl.AlbumBack)
}

// mustOn is an album behind so many AlbumOns, which must be.
func mustOn(t *testing.T, a impl.Album, many int) impl.Album {
	t.Helper()
	return mustGo(t, a, many, "AlbumOn", impl.AlbumOn)
}

// holdNotBack fails unless AlbumBack cannot be, and nothing is answered beside that.
func holdNotBack(t *testing.T, a impl.Album) {
	t.Helper()
	if x, ok := impl.AlbumBack(a); ok || !isNoAlbum(x) {
		t.Fatalf("%s: AlbumBack is %v, %v", short(a), x, ok)
	}
}

// holdNotOn fails unless AlbumOn cannot be, and nothing is answered beside that.
func holdNotOn(t *testing.T, a impl.Album) {
	t.Helper()
	if x, ok := impl.AlbumOn(a); ok || !isNoAlbum(x) {
		t.Fatalf("%s: AlbumOn is %v, %v", short(a), x, ok)
	}
}

// holdNotDo fails unless an edit is not done, and nothing is answered beside that.
func holdNotDo(t *testing.T, a impl.Album, e impl.Edit) {
	t.Helper()
	if x, ok := impl.AlbumDo(a, e); ok || !isNoAlbum(x) {
		t.Fatalf("%s: AlbumDo with %v is %v, %v", short(a), e, x, ok)
	}
}

// holdNoAlbum fails unless an album is not ok, whatever is asked of it.
func holdNoAlbum(t *testing.T, why string, a impl.Album) {
	t.Helper()
	if impl.AlbumOk(a) {
		t.Fatalf("%s: ok: %s", why, short(a))
	}
	holdNotBack(t, a)
	holdNotOn(t, a)
	for _, e := range []impl.Edit{edit(0, "."), edit(len(a.Scene.Grid.Cells)-1, "5"), edit(-1, ".")} {
		holdNotDo(t, a, e)
	}
}

// editsText is edits as places and signs: 0. 2#.
func editsText(t *testing.T, list []impl.Edit) string {
	t.Helper()
	var words []string
	for _, e := range list {
		sign, ok := handSign(e.Cell)
		if !ok {
			t.Fatalf("no ok cell: %v", e)
		}
		words = append(words, strconv.Itoa(e.At)+string(rune(sign)))
	}
	return strings.Join(words, " ")
}

// holdAlbum fails unless an album has the scene of this grid, made without the program's help, and these edits, and is ok.
func holdAlbum(t *testing.T, a impl.Album, grid, past, next string) {
	t.Helper()
	got := []string{handText(t, a.Scene.Grid), editsText(t, a.Past), editsText(t, a.Next)}
	if want := []string{grid, past, next}; !slices.Equal(got, want) {
		t.Fatalf("the album is %q, not %q", got, want)
	}
	if !sameScene(a.Scene, handScene(a.Scene.Grid)) || !impl.AlbumOk(a) {
		t.Fatalf("%v is not that of its grid", a)
	}
}
