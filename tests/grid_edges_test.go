package tests

import (
	"math"
	"strings"
	"testing"

	"loop.example/lucarne/impl"
)

func freeCells(many int) []impl.Cell {
	return make([]impl.Cell, many)
}

// withLast is that many free cells, and then this one.
func withLast(many int, c impl.Cell) []impl.Cell {
	return append(freeCells(many), c)
}

// wrongGrids is grids that are not ok, by why they are not.
func wrongGrids() map[string]impl.Grid {
	return map[string]impl.Grid{
		"nothing":                        {},
		"no cells":                       {Wide: 1},
		"no cells, an empty list":        {Wide: 5, Cells: []impl.Cell{}},
		"none in a row":                  {Wide: 0, Cells: freeCells(1)},
		"below none in a row":            {Wide: -1, Cells: freeCells(1)},
		"five below none in a row":       {Wide: -5, Cells: freeCells(25)},
		"least in a row":                 {Wide: math.MinInt, Cells: freeCells(4)},
		"most in a row":                  {Wide: math.MaxInt, Cells: freeCells(4)},
		"a row that is not whole":        {Wide: 2, Cells: freeCells(1)},
		"a second row that is not whole": {Wide: 2, Cells: freeCells(3)},
		"a last row that is not whole":   {Wide: 5, Cells: freeCells(24)},
		"a cell behind the last row":     {Wide: 5, Cells: freeCells(26)},
		"one row more":                   {Wide: 5, Cells: freeCells(30)},
		"one row more of one cell":       {Wide: 1, Cells: freeCells(6)},
		"one cell in a row more":         {Wide: 6, Cells: freeCells(30)},
		"one row with one cell more":     {Wide: 6, Cells: freeCells(6)},
		"far too many rows":              {Wide: 1, Cells: freeCells(100000)},
		"a kind below all":               {Wide: 1, Cells: withLast(0, impl.Cell{Kind: -1})},
		"a kind above all":               {Wide: 2, Cells: withLast(3, impl.Cell{Kind: 8})},
		"the least kind":                 {Wide: 1, Cells: withLast(0, impl.Cell{Kind: math.MinInt})},
		"the most kind":                  {Wide: 1, Cells: withLast(0, impl.Cell{Kind: math.MaxInt})},
		"a kind that is 7 as a byte":     {Wide: 1, Cells: withLast(0, impl.Cell{Kind: 263, Light: 1})},
		"a lamp of 0":                    {Wide: 5, Cells: withLast(24, impl.Cell{Kind: impl.CellLamp})},
		"a lamp of 10":                   {Wide: 5, Cells: withLast(24, impl.Cell{Kind: impl.CellLamp, Light: 10})},
		"a lamp below 0":                 {Wide: 1, Cells: withLast(0, impl.Cell{Kind: impl.CellLamp, Light: -1})},
		"light in a free cell":           {Wide: 5, Cells: withLast(24, impl.Cell{Light: 1})},
		"light in a wall":                {Wide: 1, Cells: withLast(1, impl.Cell{Kind: impl.CellWall, Light: 9})},
		"light below 0 in a mirror":      {Wide: 1, Cells: withLast(1, impl.Cell{Kind: impl.CellSlash, Light: -1})},
	}
}

func TestWrongGrids(t *testing.T) {
	for why, g := range wrongGrids() {
		if impl.GridOk(g) {
			t.Errorf("%s: ok", why)
		}
		if text := impl.GridText(g); text != "" {
			t.Errorf("%s: the text %q", why, text)
		}
		if x := impl.GridTurn(g); !isNoGrid(x) {
			t.Errorf("%s: turned %v", why, x)
		}
		if x := impl.GridFlip(g); !isNoGrid(x) {
			t.Errorf("%s: flipped %v", why, x)
		}
		// The wrong cell itself is put anew, too: that does not mend a grid.
		for _, at := range []int{0, len(g.Cells) - 1} {
			if x, ok := impl.GridPut(g, at, impl.Cell{}); ok || !isNoGrid(x) {
				t.Errorf("%s: put at %d: %v, %v", why, at, x, ok)
			}
		}
	}
}

func TestLimitsAreMet(t *testing.T) {
	lamps := []impl.Cell{{Kind: impl.CellLamp, Light: 1}, {Kind: impl.CellLamp, Light: 9}}
	for wide := 1; wide <= 5; wide++ {
		for rows := 1; rows <= 5; rows++ {
			for _, c := range lamps {
				g := impl.Grid{Wide: wide, Cells: withLast(wide*rows-1, c)}
				if !impl.CellOk(c) || !impl.GridOk(g) || impl.GridText(g) != handText(t, g) {
					t.Errorf("%d rows of %d, with %v: %q", rows, wide, c, impl.GridText(g))
				}
			}
		}
	}
}

func TestPutWhereItCannotBe(t *testing.T) {
	for _, g := range someGrids() {
		for _, at := range []int{math.MinInt, -len(g.Cells), -1, len(g.Cells), len(g.Cells) + 1, math.MaxInt} {
			if x, ok := impl.GridPut(g, at, impl.Cell{}); ok || !isNoGrid(x) {
				t.Fatalf("%v: put at %d: %v, %v", g, at, x, ok)
			}
		}
		for kind := -1; kind <= 8; kind++ {
			for light := -1; light <= 11; light++ {
				c := impl.Cell{Kind: kind, Light: light}
				_, may := handSign(c)
				x, ok := impl.GridPut(g, len(g.Cells)-1, c)
				if ok != may || !ok && !isNoGrid(x) {
					t.Fatalf("%v: %v put: %v, %v", g, c, x, ok)
				}
			}
		}
	}
}

func TestPutPastTheEndInSpareRoom(t *testing.T) {
	g := impl.Grid{Wide: 2, Cells: freeCells(6)[:4]}
	for _, at := range []int{4, 5} {
		if x, ok := impl.GridPut(g, at, impl.Cell{}); ok || !isNoGrid(x) {
			t.Errorf("put at %d: %v, %v", at, x, ok)
		}
	}
}

// wrongTexts is texts that are no grid's.
func wrongTexts() []string {
	return []string{
		"", "\n", "\n\n", ".", "..", ".\n.", "..\n..", ".\n\n", "\n.\n", ".\n\n.\n",
		"..\n.\n", ".\n..\n", "...\n..\n.\n", "..\n.\n\n", "......\n", ".\n.\n.\n.\n.\n.\n",
		"0\n", "10\n.\n", " \n", ".\r\n", "\x00\n", "X\n", "Z\n", "-\n", "a\n", "\xff\n", "é\n", "ééé\n...\n",
		"\ufeff.\n", "/9\n.\x89\n", "...\n.0.\n", "..\n.?\n", ".\n ", ". \n", ".\n.\n\x00",
	}
}

func TestWrongTexts(t *testing.T) {
	wrong := wrongTexts()
	wrong = append(wrong, strings.Repeat(".", 100000), strings.Repeat(".\n", 100000), strings.Repeat("\n", 100000))
	for _, text := range wrong {
		if g, ok := impl.GridRead(text); ok || !isNoGrid(g) {
			t.Errorf("%.40q is read as %v, %v", text, g, ok)
		}
	}
	for sign := range 256 {
		text := string([]byte{byte(sign), '\n'})
		if g, ok := impl.GridRead(text); ok != isGridText(text) {
			t.Errorf("%q is read as %v, %v", text, g, ok)
		}
	}
}

func TestTurnAndFlipByHand(t *testing.T) {
	for _, x := range []struct{ text, turned, flipped string }{
		{".\n", ".\n", ".\n"},
		{"/\n", "\\\n", "\\\n"},
		{"\\\n", "/\n", "/\n"},
		{"x\n", "z\n", "z\n"},
		{"z\n", "x\n", "x\n"},
		{"9\n", "9\n", "9\n"},
		{"./x#1\n", ".\n\\\nz\n#\n1\n", "1#z\\.\n"},
		{".\n/\nx\n#\n1\n", "1#z\\.\n", ".\n\\\nz\n#\n1\n"},
		{"12\n34\n56\n", "531\n642\n", "21\n43\n65\n"},
		{"./\\xz\n#:123\n45678\n9....\n:/x\\z\n", ":94#.\n\\.5:\\\nz.61/\n/.72z\nx.83x\n", "xz/\\.\n321:#\n87654\n....9\nx/z\\:\n"},
	} {
		g, ok := impl.GridRead(x.text)
		if !ok {
			t.Errorf("%q is not read", x.text)
		}
		if text := impl.GridText(impl.GridTurn(g)); text != x.turned {
			t.Errorf("%q turned is %q", x.text, text)
		}
		if text := impl.GridText(impl.GridFlip(g)); text != x.flipped {
			t.Errorf("%q flipped is %q", x.text, text)
		}
	}
}
