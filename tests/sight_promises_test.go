package tests

import (
	"testing"

	"loop.example/lucarne/impl"
)

// handSights is the ray of each sight, in order, without the program's help.
func handSights(g impl.Grid) []impl.Ray {
	const up, right, down, left = 0, 1, 2, 3
	rows := rowsOf(g)
	var rays []impl.Ray
	for column := 0; column < g.Wide; column++ {
		rays = append(rays, impl.Ray{At: column, Dir: down})
	}
	for row := 0; row < rows; row++ {
		rays = append(rays, impl.Ray{At: row*g.Wide + g.Wide - 1, Dir: left})
	}
	for column := g.Wide - 1; column >= 0; column-- {
		rays = append(rays, impl.Ray{At: (rows-1)*g.Wide + column, Dir: up})
	}
	for row := rows - 1; row >= 0; row-- {
		rays = append(rays, impl.Ray{At: row * g.Wide, Dir: right})
	}
	return rays
}

// turnedRay is where a ray comes to be when the grid is turned: its row counts columns from the end then, its column rows.
func turnedRay(g impl.Grid, r impl.Ray) impl.Ray {
	row, column := r.At/g.Wide, r.At%g.Wide
	return impl.Ray{At: column*rowsOf(g) + rowsOf(g) - 1 - row, Dir: [4]int{1, 2, 3, 0}[r.Dir]}
}

// flippedRay is where a ray comes to be in a mirror: what went right goes left.
func flippedRay(g impl.Grid, r impl.Ray) impl.Ray {
	row, column := r.At/g.Wide, r.At%g.Wide
	return impl.Ray{At: row*g.Wide + g.Wide - 1 - column, Dir: [4]int{0, 3, 2, 1}[r.Dir]}
}

// mustRay is the ray of a sight, which must be there.
func mustRay(t *testing.T, g impl.Grid, k int) impl.Ray {
	t.Helper()
	r, ok := impl.SightRay(g, k)
	if !ok {
		t.Fatalf("SightRay(%v, %d): there is none", g, k)
	}
	return r
}

// eachOnce says whether these are the numbers from 0 on, in any order.
func eachOnce(list []int) bool {
	seen := make([]bool, len(list))
	for _, k := range list {
		if k < 0 || k >= len(list) || seen[k] {
			return false
		}
		seen[k] = true
	}
	return true
}

func TestPromise17SightOfItsRayBack(t *testing.T) {
	for _, g := range lightGrids() {
		many := impl.SightMany(g)
		if many < 4 {
			t.Fatalf("%v has %d sights", g, many)
		}
		for k := range many {
			r := mustRay(t, g, k)
			if got := impl.SightOf(g, r.At, about(r.Dir)); got != k {
				t.Fatalf("%v: at the sight %d comes in %v, which goes back to %d", g, k, r, got)
			}
			if hasNext(g, r.At, about(r.Dir)) {
				t.Fatalf("%v: at the sight %d comes in %v, behind which is a cell", g, k, r)
			}
		}
	}
}

func TestPromise18SightJustWhereNoCellIs(t *testing.T) {
	for _, g := range lightGrids() {
		for at := range g.Cells {
			for _, dir := range ways() {
				k := impl.SightOf(g, at, dir)
				if hasNext(g, at, dir) {
					if k != -1 {
						t.Fatalf("%v: from %d, going %d, is a cell, and the sight %d", g, at, dir, k)
					}
					continue
				}
				if k < 0 || k >= impl.SightMany(g) {
					t.Fatalf("%v: from %d, going %d, is no cell, and the sight %d", g, at, dir, k)
				}
				if r := mustRay(t, g, k); r != (impl.Ray{At: at, Dir: about(dir)}) {
					t.Fatalf("%v: from %d, going %d, one leaves at %d, where %v comes in", g, at, dir, k, r)
				}
			}
		}
	}
}

func TestPromise19TwiceRowsAndColumns(t *testing.T) {
	for _, g := range lightGrids() {
		want := 2 * (g.Wide + rowsOf(g))
		if got := impl.SightMany(g); got != want {
			t.Fatalf("%v has %d sights, not %d", g, got, want)
		}
		seen := map[impl.Ray]int{}
		for k := range want {
			r := mustRay(t, g, k)
			if r.At < 0 || r.At >= len(g.Cells) || r.Dir < 0 || r.Dir > 3 {
				t.Fatalf("%v: at the sight %d comes in %v", g, k, r)
			}
			if first, ok := seen[r]; ok {
				t.Fatalf("%v: at the sights %d and %d comes in %v", g, first, k, r)
			}
			seen[r] = k
		}
		if r, ok := impl.SightRay(g, want); ok {
			t.Fatalf("%v: past the last sight comes in %v", g, r)
		}
	}
}

func TestPromise20TurnsAndFlips(t *testing.T) {
	for _, g := range lightGrids() {
		flipped := impl.GridFlip(g)
		var turns, flips []int
		for k := range impl.SightMany(g) {
			turns = append(turns, impl.SightTurn(g, k))
			flips = append(flips, impl.SightFlip(g, k))
			now, at := g, k
			for range 4 {
				at = impl.SightTurn(now, at)
				now = impl.GridTurn(now)
			}
			if at != k {
				t.Fatalf("%v: the sight %d is, turned four times, %d", g, k, at)
			}
			if twice := impl.SightFlip(flipped, impl.SightFlip(g, k)); twice != k {
				t.Fatalf("%v: the sight %d is, flipped twice, %d", g, k, twice)
			}
		}
		if !eachOnce(turns) || len(turns) != impl.SightMany(impl.GridTurn(g)) {
			t.Fatalf("%v: turned, the sights are %v", g, turns)
		}
		if !eachOnce(flips) || len(flips) != impl.SightMany(flipped) {
			t.Fatalf("%v: flipped, the sights are %v", g, flips)
		}
	}
}

func TestPromise21EachSightOnce(t *testing.T) {
	for _, g := range lightGrids() {
		var told []int
		for at := range g.Cells {
			for _, dir := range ways() {
				if k := impl.SightOf(g, at, dir); k != -1 {
					told = append(told, k)
				}
			}
		}
		if !eachOnce(told) || len(told) != impl.SightMany(g) || len(told) == 0 {
			t.Fatalf("%v: from all cells one leaves at %v", g, told)
		}
	}
}
