package tests

import (
	"slices"
	"strconv"
	"testing"

	"loop.example/lucarne/impl"
)

// picGrids is the grids of trails, and some of each size with many lamps, so that most sights are bright.
func picGrids(t *testing.T) []impl.Grid {
	return slices.Concat(trailGrids(t), gridsOf(40, 3, "./\\xz:159"), gridsOf(41, 2, "xz:27"))
}

// mustPic is the picture of a grid, which must have a number of each sight.
func mustPic(t *testing.T, g impl.Grid) []int {
	t.Helper()
	pic := impl.PicOf(g)
	if len(pic) != 2*(g.Wide+rowsOf(g)) {
		t.Fatalf("PicOf(%v) is %v", g, pic)
	}
	return pic
}

// mustTo is how much goes from each sight of a grid to each, which must be as many as there are.
func mustTo(t *testing.T, g impl.Grid) [][]int {
	t.Helper()
	to := impl.PicTo(g)
	many := 2 * (g.Wide + rowsOf(g))
	if len(to) != many {
		t.Fatalf("PicTo(%v) has %d rows", g, len(to))
	}
	for k, row := range to {
		if len(row) != many {
			t.Fatalf("PicTo(%v)[%d] is %v", g, k, row)
		}
	}
	return to
}

// sameRows says whether two lists of rows are the same.
func sameRows(a, b [][]int) bool {
	return slices.EqualFunc(a, b, slices.Equal[[]int])
}

// copyRows is rows that share nothing with these.
func copyRows(rows [][]int) [][]int {
	var all [][]int
	for _, row := range rows {
		all = append(all, slices.Clone(row))
	}
	return all
}

// handPic is the picture of a grid, without the program's help.
func handPic(g impl.Grid) []int {
	var pic []int
	for k := range handSights(g) {
		pic = append(pic, handTrailOf(g, k).light(g))
	}
	return pic
}

// handTo is how much goes from each sight to each, without the program's help.
func handTo(g impl.Grid) [][]int {
	var rows [][]int
	for k := range handSights(g) {
		h := handTrailOf(g, k)
		var row []int
		for to := range handSights(g) {
			row = append(row, h.to(to))
		}
		rows = append(rows, row)
	}
	return rows
}

// handPicText is the text of as many numbers as there are sights: a line ends where the next ray comes from another side.
func handPicText(g impl.Grid, pic []int) string {
	text := ""
	rays := handSights(g)
	for k, n := range pic {
		text += strconv.Itoa(n)
		if k+1 < len(rays) && rays[k+1].Dir == rays[k].Dir {
			text += " "
		} else {
			text += "\n"
		}
	}
	return text
}

// pairs is rows that are 0 but for these: from, to, how much, the same there and back.
func pairs(many int, some [][3]int) [][]int {
	rows := make([][]int, many)
	for k := range rows {
		rows[k] = make([]int, many)
	}
	for _, p := range some {
		rows[p[0]][p[1]], rows[p[1]][p[0]] = p[2], p[2]
	}
	return rows
}

// lampsOf is the places of the lamps of a grid.
func lampsOf(g impl.Grid) []int {
	var lamps []int
	for at, c := range g.Cells {
		if c.Kind == impl.CellLamp {
			lamps = append(lamps, at)
		}
	}
	return lamps
}

// alone is a grid with walls instead of all lamps but one.
func alone(g impl.Grid, lamp int) impl.Grid {
	x := walled(g)
	x.Cells[lamp] = g.Cells[lamp]
	return x
}

// allLamps is a grid whose lamps are all as bright as this.
func allLamps(g impl.Grid, light int) impl.Grid {
	x := copyGrid(g)
	for _, at := range lampsOf(g) {
		x.Cells[at].Light = light
	}
	return x
}

// countUp is so many numbers, from 0 on.
func countUp(many int) []int {
	list := make([]int, many)
	for i := range list {
		list[i] = i
	}
	return list
}
