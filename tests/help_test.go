package tests

import (
	"fmt"
	"slices"
	"testing"

	"loop.example/lucarne/impl"
)

// dice is numbers by a fixed rule, so that each run tests the same.
type dice struct{ state uint64 }

func (d *dice) roll(many int) int {
	d.state = d.state*6364136223846793005 + 1442695040888963407
	return int((d.state >> 33) % uint64(many))
}

// short is how a value is told when it may be very long.
func short(value any) string {
	text := fmt.Sprint(value)
	return text[:min(len(text), 900)]
}

// signedCell is an ok cell, and the sign that the document gives it.
type signedCell struct {
	cell impl.Cell
	sign byte
}

// signedCells is written out by hand: what the program answers is held against it.
func signedCells() []signedCell {
	return []signedCell{
		{impl.Cell{Kind: 0}, '.'},
		{impl.Cell{Kind: 1}, '#'},
		{impl.Cell{Kind: 2}, '/'},
		{impl.Cell{Kind: 3}, '\\'},
		{impl.Cell{Kind: 4}, 'x'},
		{impl.Cell{Kind: 5}, 'z'},
		{impl.Cell{Kind: 6}, ':'},
		{impl.Cell{Kind: 7, Light: 1}, '1'},
		{impl.Cell{Kind: 7, Light: 2}, '2'},
		{impl.Cell{Kind: 7, Light: 3}, '3'},
		{impl.Cell{Kind: 7, Light: 4}, '4'},
		{impl.Cell{Kind: 7, Light: 5}, '5'},
		{impl.Cell{Kind: 7, Light: 6}, '6'},
		{impl.Cell{Kind: 7, Light: 7}, '7'},
		{impl.Cell{Kind: 7, Light: 8}, '8'},
		{impl.Cell{Kind: 7, Light: 9}, '9'},
	}
}

// okCells is all cells that are ok.
func okCells() []impl.Cell {
	var cells []impl.Cell
	for _, s := range signedCells() {
		cells = append(cells, s.cell)
	}
	return cells
}

// handSign is the sign of a cell; false, if the cell is not ok.
func handSign(c impl.Cell) (byte, bool) {
	for _, s := range signedCells() {
		if s.cell == c {
			return s.sign, true
		}
	}
	return 0, false
}

// handText is the text of an ok grid, without the program's help.
func handText(t *testing.T, g impl.Grid) string {
	t.Helper()
	text := ""
	for row := range rowsOf(g) {
		for _, c := range g.Cells[row*g.Wide : (row+1)*g.Wide] {
			sign, ok := handSign(c)
			if !ok {
				t.Fatalf("no ok cell: %v", c)
			}
			text += string(rune(sign))
		}
		text += "\n"
	}
	return text
}

// handLean is the cell that leans the other way.
func handLean(c impl.Cell) impl.Cell {
	switch c.Kind {
	case 2:
		return impl.Cell{Kind: 3}
	case 3:
		return impl.Cell{Kind: 2}
	case 4:
		return impl.Cell{Kind: 5}
	case 5:
		return impl.Cell{Kind: 4}
	}
	return c
}

func rowsOf(g impl.Grid) int {
	return len(g.Cells) / g.Wide
}

func sameGrid(a, b impl.Grid) bool {
	return a.Wide == b.Wide && slices.Equal(a.Cells, b.Cells)
}

func isNoGrid(g impl.Grid) bool {
	return g.Wide == 0 && len(g.Cells) == 0
}

func copyGrid(g impl.Grid) impl.Grid {
	return impl.Grid{Wide: g.Wide, Cells: slices.Clone(g.Cells)}
}

// rolledGrid is a grid of that size with any ok cells.
func rolledGrid(d *dice, wide, rows int) impl.Grid {
	cells := okCells()
	g := impl.Grid{Wide: wide}
	for range wide * rows {
		// Kinds are rolled first, as else more than half of all cells were lamps.
		c := cells[d.roll(8)]
		if c.Kind == impl.CellLamp {
			c.Light = 1 + d.roll(9)
		}
		g.Cells = append(g.Cells, c)
	}
	return g
}

// allGrids is each grid of that size.
func allGrids(wide, rows int) []impl.Grid {
	grids := []impl.Grid{{Wide: wide}}
	for range wide * rows {
		var longer []impl.Grid
		for _, g := range grids {
			for _, c := range okCells() {
				x := copyGrid(g)
				x.Cells = append(x.Cells, c)
				longer = append(longer, x)
			}
		}
		grids = longer
	}
	return grids
}

// smallGrids is each grid of one cell, and of two.
func smallGrids() []impl.Grid {
	return slices.Concat(allGrids(1, 1), allGrids(2, 1), allGrids(1, 2))
}

// someGrids is the small ones, and some of every size, from one cell to five by five.
func someGrids() []impl.Grid {
	grids := smallGrids()
	d := &dice{1}
	for wide := 1; wide <= 5; wide++ {
		for rows := 1; rows <= 5; rows++ {
			for range 12 {
				grids = append(grids, rolledGrid(d, wide, rows))
			}
		}
	}
	return grids
}
