package tests

import (
	"math"
	"slices"
	"testing"

	"loop.example/lucarne/impl"
)

// wrongSights is sights that a grid of so many has not; some are sights in a count by that many, or as a byte.
func wrongSights(many int) []int {
	return []int{math.MinInt, math.MinInt + 1, -256, -many - 1, -many, -2, -1, many, many + 1, 2 * many, 256, 1 << 32, math.MaxInt - 1, math.MaxInt}
}

// noSight says whether all that is asked of a sight is answered as if there were none.
func noSight(g impl.Grid, k int) bool {
	r, ok := impl.SightRay(g, k)
	return !ok && r == (impl.Ray{}) && impl.SightTurn(g, k) == -1 && impl.SightFlip(g, k) == -1
}

func TestRayOfEachSight(t *testing.T) {
	for _, g := range lightGrids() {
		want := handSights(g)
		if many := impl.SightMany(g); many != len(want) {
			t.Fatalf("%v has %d sights, not %d", g, many, len(want))
		}
		for k, ray := range want {
			if got, ok := impl.SightRay(g, k); !ok || got != ray {
				t.Fatalf("%v: at the sight %d comes in %v, %v, not %v", g, k, got, ok, ray)
			}
		}
	}
}

func TestSightOfEachPlaceAndWay(t *testing.T) {
	for _, g := range lightGrids() {
		rays := handSights(g)
		for at := range g.Cells {
			for _, dir := range ways() {
				want := slices.Index(rays, impl.Ray{At: at, Dir: about(dir)})
				if got := impl.SightOf(g, at, dir); got != want {
					t.Fatalf("SightOf(%v, %d, %d) is %d, not %d", g, at, dir, got, want)
				}
			}
		}
	}
}

func TestTurnedAndFlippedSights(t *testing.T) {
	for _, g := range lightGrids() {
		inTurned, inFlipped := handSights(impl.GridTurn(g)), handSights(impl.GridFlip(g))
		for k, ray := range handSights(g) {
			want := slices.Index(inTurned, turnedRay(g, ray))
			if got := impl.SightTurn(g, k); got != want {
				t.Fatalf("SightTurn(%v, %d) is %d, not %d", g, k, got, want)
			}
			want = slices.Index(inFlipped, flippedRay(g, ray))
			if got := impl.SightFlip(g, k); got != want {
				t.Fatalf("SightFlip(%v, %d) is %d, not %d", g, k, got, want)
			}
		}
	}
}

func TestSightsByHand(t *testing.T) {
	const up, right, down, left = 0, 1, 2, 3
	for _, x := range []struct {
		wide, many    int
		k             int
		ray           impl.Ray
		turned, flips int
	}{
		{1, 1, 0, impl.Ray{At: 0, Dir: down}, 1, 0},
		{1, 1, 1, impl.Ray{At: 0, Dir: left}, 2, 3},
		{1, 1, 2, impl.Ray{At: 0, Dir: up}, 3, 2},
		{1, 1, 3, impl.Ray{At: 0, Dir: right}, 0, 1},
		{5, 5, 0, impl.Ray{At: 0, Dir: down}, 1, 4},
		{5, 5, 4, impl.Ray{At: 4, Dir: down}, 5, 0},
		{5, 5, 5, impl.Ray{At: 4, Dir: left}, 6, 11},
		{5, 5, 6, impl.Ray{At: 4, Dir: up}, 7, 10},
		{5, 5, 10, impl.Ray{At: 0, Dir: up}, 11, 6},
		{5, 5, 11, impl.Ray{At: 0, Dir: right}, 0, 5},
		{1, 5, 0, impl.Ray{At: 0, Dir: down}, 5, 0},
		{1, 5, 1, impl.Ray{At: 0, Dir: left}, 6, 11},
		{1, 5, 5, impl.Ray{At: 4, Dir: left}, 10, 7},
		{1, 5, 6, impl.Ray{At: 4, Dir: up}, 11, 6},
		{1, 5, 7, impl.Ray{At: 4, Dir: right}, 0, 5},
		{1, 5, 11, impl.Ray{At: 0, Dir: right}, 4, 1},
		{5, 25, 0, impl.Ray{At: 0, Dir: down}, 5, 4},
		{5, 25, 4, impl.Ray{At: 4, Dir: down}, 9, 0},
		{5, 25, 5, impl.Ray{At: 4, Dir: left}, 10, 19},
		{5, 25, 9, impl.Ray{At: 24, Dir: left}, 14, 15},
		{5, 25, 10, impl.Ray{At: 24, Dir: up}, 15, 14},
		{5, 25, 12, impl.Ray{At: 22, Dir: up}, 17, 12},
		{5, 25, 14, impl.Ray{At: 20, Dir: up}, 19, 10},
		{5, 25, 15, impl.Ray{At: 20, Dir: right}, 0, 9},
		{5, 25, 19, impl.Ray{At: 0, Dir: right}, 4, 5},
		{2, 6, 1, impl.Ray{At: 1, Dir: down}, 4, 0},
		{2, 6, 4, impl.Ray{At: 5, Dir: left}, 7, 7},
		{2, 6, 6, impl.Ray{At: 4, Dir: up}, 9, 5},
		{2, 6, 8, impl.Ray{At: 2, Dir: right}, 1, 3},
	} {
		g := impl.Grid{Wide: x.wide, Cells: freeCells(x.many)}
		if got, ok := impl.SightRay(g, x.k); !ok || got != x.ray {
			t.Errorf("%d free cells, %d in a row, the sight %d: %v, %v", x.many, x.wide, x.k, got, ok)
		}
		if got := impl.SightOf(g, x.ray.At, about(x.ray.Dir)); got != x.k {
			t.Errorf("%d free cells, %d in a row, from %d, going %d: the sight %d", x.many, x.wide, x.ray.At, about(x.ray.Dir), got)
		}
		if got := impl.SightTurn(g, x.k); got != x.turned {
			t.Errorf("%d free cells, %d in a row, the sight %d, turned: %d", x.many, x.wide, x.k, got)
		}
		if got := impl.SightFlip(g, x.k); got != x.flips {
			t.Errorf("%d free cells, %d in a row, the sight %d, flipped: %d", x.many, x.wide, x.k, got)
		}
	}
}

func TestCornersAreSeenFromTwoSides(t *testing.T) {
	for _, g := range lightGrids() {
		seen := make([]int, len(g.Cells))
		for k := range impl.SightMany(g) {
			seen[mustRay(t, g, k).At]++
		}
		for at, many := range seen {
			want := 0
			for _, dir := range ways() {
				if _, there := handNext(g, at, dir); !there {
					want++
				}
			}
			if many != want {
				t.Fatalf("%v: the cell %d is seen from %d sides, not %d", g, at, many, want)
			}
		}
	}
}

func TestNoSuchSight(t *testing.T) {
	for _, g := range lightGrids() {
		for _, k := range wrongSights(len(handSights(g))) {
			if !noSight(g, k) {
				t.Fatalf("%v has no sight %d, and is answered as if it had", g, k)
			}
		}
	}
}

func TestSightOfNoPlaceOrWay(t *testing.T) {
	for _, g := range lightGrids() {
		for _, at := range wrongPlaces(g) {
			for _, dir := range append(wrongWays(), ways()...) {
				if got := impl.SightOf(g, at, dir); got != -1 {
					t.Fatalf("SightOf(%v, %d, %d) is %d", g, at, dir, got)
				}
			}
		}
		for at := range g.Cells {
			for _, dir := range wrongWays() {
				if got := impl.SightOf(g, at, dir); got != -1 {
					t.Fatalf("SightOf(%v, %d, %d) is %d", g, at, dir, got)
				}
			}
		}
	}
}

func TestSightsOfWrongGrids(t *testing.T) {
	for why, g := range wrongGrids() {
		if many := impl.SightMany(g); many != 0 {
			t.Errorf("%s: %d sights", why, many)
		}
		for k := -1; k <= 24; k++ {
			if !noSight(g, k) {
				t.Errorf("%s: the sight %d is there", why, k)
			}
		}
		for _, k := range wrongSights(0) {
			if !noSight(g, k) {
				t.Errorf("%s: the sight %d is there", why, k)
			}
		}
		for at := -1; at <= min(len(g.Cells), 30); at++ {
			for _, dir := range append(wrongWays(), ways()...) {
				if got := impl.SightOf(g, at, dir); got != -1 {
					t.Errorf("%s: from %d, going %d: the sight %d", why, at, dir, got)
				}
			}
		}
	}
}

func TestSightsInSpareRoom(t *testing.T) {
	g := impl.Grid{Wide: 2, Cells: freeCells(6)[:4]}
	if many := impl.SightMany(g); many != 8 {
		t.Errorf("%d sights", many)
	}
	for _, at := range []int{4, 5} {
		for _, dir := range ways() {
			if got := impl.SightOf(g, at, dir); got != -1 {
				t.Errorf("from %d, going %d: the sight %d", at, dir, got)
			}
		}
	}
	if r, ok := impl.SightRay(g, 4); !ok || r != (impl.Ray{At: 3, Dir: impl.DirUp}) {
		t.Errorf("below the last row comes in %v, %v", r, ok)
	}
}

func TestSightsWriteNothing(t *testing.T) {
	grids := lightGrids()
	for _, g := range wrongGrids() {
		if len(g.Cells) < 100 {
			grids = append(grids, g)
		}
	}
	for _, g := range grids {
		whole, inner := lent(g)
		ahead := slices.Clone(whole)
		impl.SightMany(inner)
		for k := -1; k <= 20; k++ {
			impl.SightRay(inner, k)
			impl.SightTurn(inner, k)
			impl.SightFlip(inner, k)
		}
		for at := -1; at <= len(g.Cells); at++ {
			for dir := -1; dir <= 4; dir++ {
				impl.SightOf(inner, at, dir)
			}
		}
		if !slices.Equal(whole, ahead) {
			t.Fatalf("%v is written into, or around it", g)
		}
	}
}
