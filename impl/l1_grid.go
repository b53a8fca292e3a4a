package impl

import (
	"slices"
	"strings"
)

// Limits of grids.
const (
	GridMax = 5
	LampMax = 9
)

// Kinds of cells.
const (
	CellFree  = 0
	CellWall  = 1
	CellSlash = 2
	CellBack  = 3
	CellGlass = 4
	CellPane  = 5
	CellDim   = 6
	CellLamp  = 7
)

// Cell is its kind, and how bright it is, if it is a lamp.
type Cell struct {
	Kind  int
	Light int
}

// Grid is cells, row by row, and how many are in a row.
type Grid struct {
	Wide  int
	Cells []Cell
}

// kind is what a cell is; each is a type of its own, so that a number that there is no kind of has none.
type kind interface {
	number() int
	mayShine(light int) bool
}

// dark is what all kinds but the lamp have in common.
type dark struct{}

type freeKind struct{ dark }
type wallKind struct{ dark }
type slashKind struct{ dark }
type backKind struct{ dark }
type glassKind struct{ dark }
type paneKind struct{ dark }
type dimKind struct{ dark }
type lampKind struct{}

func (dark) mayShine(light int) bool     { return light == 0 }
func (lampKind) mayShine(light int) bool { return light >= 1 && light <= LampMax }

func (freeKind) number() int  { return CellFree }
func (wallKind) number() int  { return CellWall }
func (slashKind) number() int { return CellSlash }
func (backKind) number() int  { return CellBack }
func (glassKind) number() int { return CellGlass }
func (paneKind) number() int  { return CellPane }
func (dimKind) number() int   { return CellDim }
func (lampKind) number() int  { return CellLamp }

// kindOf is the kind of a number; false, if there is none.
func kindOf(number int) (kind, bool) {
	switch number {
	case CellFree:
		return freeKind{}, true
	case CellWall:
		return wallKind{}, true
	case CellSlash:
		return slashKind{}, true
	case CellBack:
		return backKind{}, true
	case CellGlass:
		return glassKind{}, true
	case CellPane:
		return paneKind{}, true
	case CellDim:
		return dimKind{}, true
	case CellLamp:
		return lampKind{}, true
	}
	return nil, false
}

// leanKind is the kind that leans the other way; what does not lean stays.
func leanKind(k kind) kind {
	switch k.(type) {
	case slashKind:
		return backKind{}
	case backKind:
		return slashKind{}
	case glassKind:
		return paneKind{}
	case paneKind:
		return glassKind{}
	}
	return k
}

// leanCell is a cell whose mirror, or glass, leans the other way.
func leanCell(c Cell) Cell {
	k, ok := kindOf(c.Kind)
	if !ok {
		return c
	}
	return Cell{Kind: leanKind(k).number(), Light: c.Light}
}

// plainSigns are the signs of all kinds but the lamp, whose sign hangs on how bright it is.
func plainSigns() [CellLamp]byte {
	return [CellLamp]byte{
		CellFree:  '.',
		CellWall:  '#',
		CellSlash: '/',
		CellBack:  '\\',
		CellGlass: 'x',
		CellPane:  'z',
		CellDim:   ':',
	}
}

// cellSign is the sign of an ok cell.
func cellSign(c Cell) byte {
	if c.Kind == CellLamp {
		return byte('0' + c.Light)
	}
	return plainSigns()[c.Kind]
}

// cellOfSign is the ok cell that has a sign; false, if none has it.
func cellOfSign(sign byte) (Cell, bool) {
	for number, plain := range plainSigns() {
		if plain == sign {
			return Cell{Kind: number}, true
		}
	}
	lamp := Cell{Kind: CellLamp, Light: int(sign) - '0'}
	if CellOk(lamp) {
		return lamp, true
	}
	return Cell{}, false
}

// gridRows is how many rows an ok grid has.
func gridRows(g Grid) int {
	return len(g.Cells) / g.Wide
}

// placeOk says whether a grid has such a place.
func placeOk(g Grid, at int) bool {
	return at >= 0 && at < len(g.Cells)
}

// copyGrid is the same grid in new memory.
func copyGrid(g Grid) Grid {
	cells := make([]Cell, len(g.Cells))
	copy(cells, g.Cells)
	return Grid{Wide: g.Wide, Cells: cells}
}

// sameGrid says whether two grids are the same.
func sameGrid(a, b Grid) bool {
	return a.Wide == b.Wide && slices.Equal(a.Cells, b.Cells)
}

// CellOk says whether a cell is ok.
func CellOk(c Cell) bool {
	k, ok := kindOf(c.Kind)
	return ok && k.mayShine(c.Light)
}

// GridOk says whether a grid is ok.
func GridOk(g Grid) bool {
	if g.Wide < 1 || g.Wide > GridMax {
		return false
	}
	// The size is asked ahead of the cells, so that a list that is far too long is not gone through.
	if len(g.Cells)%g.Wide != 0 || gridRows(g) < 1 || gridRows(g) > GridMax {
		return false
	}
	for _, c := range g.Cells {
		if !CellOk(c) {
			return false
		}
	}
	return true
}

// GridText is the text of a grid.
func GridText(g Grid) string {
	if !GridOk(g) {
		return ""
	}
	text := make([]byte, 0, len(g.Cells)+gridRows(g))
	for at, c := range g.Cells {
		text = append(text, cellSign(c))
		if at%g.Wide == g.Wide-1 {
			text = append(text, '\n')
		}
	}
	return string(text)
}

// GridRead is the grid of a text.
func GridRead(text string) (Grid, bool) {
	wide := strings.IndexByte(text, '\n')
	if wide < 1 || wide > GridMax {
		return Grid{}, false
	}
	line := wide + 1
	rows := len(text) / line
	if len(text)%line != 0 || rows > GridMax {
		return Grid{}, false
	}
	cells := make([]Cell, 0, rows*wide)
	for row := range rows {
		// A newline is no cell's sign: a row that is shorter than the first one fails there, too.
		for _, sign := range []byte(text[row*line : row*line+wide]) {
			c, ok := cellOfSign(sign)
			if !ok {
				return Grid{}, false
			}
			cells = append(cells, c)
		}
		if text[row*line+wide] != '\n' {
			return Grid{}, false
		}
	}
	return Grid{Wide: wide, Cells: cells}, true
}

// GridPut is a grid with another cell.
func GridPut(g Grid, at int, c Cell) (Grid, bool) {
	if !GridOk(g) || !CellOk(c) || !placeOk(g, at) {
		return Grid{}, false
	}
	put := copyGrid(g)
	put.Cells[at] = c
	return put, true
}

// GridTurn is a grid, turned by a quarter.
func GridTurn(g Grid) Grid {
	if !GridOk(g) {
		return Grid{}
	}
	rows := gridRows(g)
	cells := make([]Cell, len(g.Cells))
	for at, c := range g.Cells {
		row, column := at/g.Wide, at%g.Wide
		cells[column*rows+rows-1-row] = leanCell(c)
	}
	return Grid{Wide: rows, Cells: cells}
}

// GridFlip is a grid as in a mirror beside it.
func GridFlip(g Grid) Grid {
	if !GridOk(g) {
		return Grid{}
	}
	cells := make([]Cell, len(g.Cells))
	for at, c := range g.Cells {
		row, column := at/g.Wide, at%g.Wide
		cells[row*g.Wide+g.Wide-1-column] = leanCell(c)
	}
	return Grid{Wide: g.Wide, Cells: cells}
}
