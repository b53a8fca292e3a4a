package tests

import (
	"slices"
	"testing"

	"loop.example/lucarne/impl"
)

func TestPromise22AllOfIt(t *testing.T) {
	eachSight(t, trailGrids(t), func(g impl.Grid, k int) {
		sum := 0
		for _, e := range impl.TrailEnds(g, k) {
			if e.Weight < 1 {
				t.Fatalf("%v, %d: the end %v is none", g, k, e)
			}
			sum += e.Weight
		}
		if sum != 64 {
			t.Fatalf("%v, %d: all ends are %d", g, k, sum)
		}
	})
}

func TestPromise23FirstVisit(t *testing.T) {
	eachSight(t, trailGrids(t), func(g impl.Grid, k int) {
		visits := impl.TrailVisits(g, k)
		r := mustRay(t, g, k)
		if len(visits) == 0 || visits[0] != (impl.Visit{At: r.At, Dir: r.Dir, Weight: 64}) {
			t.Fatalf("%v, %d: %v does not begin with %v", g, k, visits, r)
		}
		for _, v := range visits {
			if v.Weight > 64 || v.Weight < 1 {
				t.Fatalf("%v, %d: the visit %v", g, k, v)
			}
		}
	})
}

// visitsBehind is the visits to which a visit leads at once.
func visitsBehind(g impl.Grid, v impl.Visit) []impl.Visit {
	kind := g.Cells[v.At].Kind
	if kind == impl.CellWall || kind == impl.CellLamp {
		return nil
	}
	var dirs []int
	if kind != impl.CellSlash && kind != impl.CellBack {
		dirs = append(dirs, v.Dir)
	}
	if turned := impl.DirTurn(kind, v.Dir); turned != v.Dir {
		dirs = append(dirs, turned)
	}
	weight := v.Weight
	if halves(kind) {
		weight /= 2
	}
	var behind []impl.Visit
	for _, dir := range dirs {
		if next, ok := impl.RayNext(g, v.At, dir); ok && weight > 0 {
			behind = append(behind, impl.Visit{At: next.At, Dir: next.Dir, Weight: weight})
		}
	}
	return behind
}

func TestPromise24EachVisitHasOneAhead(t *testing.T) {
	later := 0
	eachSight(t, trailGrids(t), func(g impl.Grid, k int) {
		visits := impl.TrailVisits(g, k)
		if len(visits) == 0 {
			t.Fatalf("%v, %d: no visits", g, k)
		}
		owed := map[impl.Visit]int{}
		for i, v := range visits {
			if i > 0 && owed[v] == 0 {
				t.Fatalf("%v, %d: to %v leads no visit ahead: %v", g, k, v, visits)
			}
			if i > 0 {
				owed[v]--
				later++
			}
			for _, next := range visitsBehind(g, v) {
				owed[next]++
			}
		}
		for v, many := range owed {
			if many != 0 {
				t.Fatalf("%v, %d: %v is visited %d times too few", g, k, v, many)
			}
		}
	})
	if later == 0 {
		t.Fatal("no sight has a second visit")
	}
}

func TestPromise25WhereLightEnds(t *testing.T) {
	var many [4]int
	eachSight(t, trailGrids(t), func(g impl.Grid, k int) {
		for _, e := range impl.TrailEnds(g, k) {
			if e.Kind < 0 || e.Kind > 3 || e.Where < 0 {
				t.Fatalf("%v, %d: the end %v", g, k, e)
			}
			many[e.Kind]++
			if e.Kind == impl.EndOut {
				if e.Where >= impl.SightMany(g) {
					t.Fatalf("%v, %d: no sight: %v", g, k, e)
				}
				continue
			}
			if e.Where >= len(g.Cells) {
				t.Fatalf("%v, %d: no place: %v", g, k, e)
			}
			kind := g.Cells[e.Where].Kind
			fits := e.Kind == impl.EndWall && kind == impl.CellWall ||
				e.Kind == impl.EndLamp && kind == impl.CellLamp ||
				e.Kind == impl.EndLost && halves(kind)
			if !fits {
				t.Fatalf("%v, %d: the end %v in a cell of kind %d", g, k, e, kind)
			}
		}
	})
	if slices.Contains(many[:], 0) {
		t.Fatalf("so many ends of each kind: %v", many)
	}
}

func TestPromise26FootIsOfVisits(t *testing.T) {
	eachSight(t, trailGrids(t), func(g impl.Grid, k int) {
		var want []int
		for _, v := range impl.TrailVisits(g, k) {
			want = append(want, v.At)
		}
		slices.Sort(want)
		want = slices.Compact(want)
		if got := impl.TrailFoot(g, k); !slices.Equal(got, want) || len(got) == 0 {
			t.Fatalf("%v, %d: the foot is %v, not %v", g, k, got, want)
		}
	})
}

func TestPromise27AsItCame(t *testing.T) {
	some := 0
	eachSight(t, trailGrids(t), func(g impl.Grid, k int) {
		sum := 0
		for to := range impl.SightMany(g) {
			there, back := impl.TrailTo(g, k, to), impl.TrailTo(g, to, k)
			if there != back {
				t.Fatalf("%v: from %d to %d goes %d, and back %d", g, k, to, there, back)
			}
			sum += there
		}
		if sum > 0 {
			some++
		}
	})
	if some == 0 {
		t.Fatal("no light leaves anywhere")
	}
}

func TestPromise28Unseen(t *testing.T) {
	unseen := 0
	grids := slices.Concat(roundGrids(t), gridsOf(28, 1, "./\\xz:"), gridsOf(29, 1, ".#/\\xz:5"))
	eachSight(t, grids, func(g impl.Grid, k int) {
		visits, ends, foot := impl.TrailVisits(g, k), impl.TrailEnds(g, k), impl.TrailFoot(g, k)
		for at := range g.Cells {
			if slices.Contains(foot, at) {
				continue
			}
			unseen++
			for _, c := range cellsOf(".#/\\xz:9") {
				x := put(t, g, at, c)
				if !slices.Equal(impl.TrailVisits(x, k), visits) || !slices.Equal(impl.TrailEnds(x, k), ends) {
					t.Fatalf("%v, %d: another trail with %v at %d", g, k, c, at)
				}
			}
		}
	})
	if unseen == 0 {
		t.Fatal("all light comes everywhere")
	}
}

func TestPromise29OneEnd(t *testing.T) {
	eachSight(t, clearGrids(), func(g impl.Grid, k int) {
		if ends := impl.TrailEnds(g, k); len(ends) != 1 || ends[0].Weight != 64 {
			t.Fatalf("%v, %d: %v", g, k, ends)
		}
		seen := map[impl.Ray]int{}
		for _, v := range impl.TrailVisits(g, k) {
			r := impl.Ray{At: v.At, Dir: v.Dir}
			seen[r]++
			if seen[r] > 1 {
				t.Fatalf("%v, %d: %v is visited twice", g, k, r)
			}
		}
		if len(seen) == 0 {
			t.Fatalf("%v, %d: no visits", g, k)
		}
	})
}

func TestPromise30FreeCells(t *testing.T) {
	for _, g := range freeGrids() {
		rows, many := rowsOf(g), 2*(g.Wide+rowsOf(g))
		other := make([]int, many)
		for column := range g.Wide {
			above, below := column, g.Wide+rows+g.Wide-1-column
			other[above], other[below] = below, above
		}
		for row := range rows {
			right, left := g.Wide+row, many-1-row
			other[right], other[left] = left, right
		}
		for k, want := range other {
			if ends := impl.TrailEnds(g, k); !slices.Equal(ends, []impl.End{{Kind: 0, Where: want, Weight: 64}}) {
				t.Fatalf("%v, %d: %v, not at %d", g, k, ends, want)
			}
			for to := range many {
				if got := impl.TrailTo(g, k, to); (got == 64) != (to == want) || got != 0 && got != 64 {
					t.Fatalf("%v: from %d to %d goes %d", g, k, to, got)
				}
			}
		}
	}
}

func TestPromise31TurnedAndInAMirror(t *testing.T) {
	some := 0
	eachSight(t, trailGrids(t), func(g impl.Grid, k int) {
		round, mirrored := impl.GridTurn(g), impl.GridFlip(g)
		for to := range impl.SightMany(g) {
			want := impl.TrailTo(g, k, to)
			some += want
			if got := impl.TrailTo(round, impl.SightTurn(g, k), impl.SightTurn(g, to)); got != want {
				t.Fatalf("%v: from %d to %d goes %d, turned %d", g, k, to, want, got)
			}
			if got := impl.TrailTo(mirrored, impl.SightFlip(g, k), impl.SightFlip(g, to)); got != want {
				t.Fatalf("%v: from %d to %d goes %d, flipped %d", g, k, to, want, got)
			}
		}
	})
	if some == 0 {
		t.Fatal("no light leaves anywhere")
	}
}

func TestPromise32WallAtTheSight(t *testing.T) {
	eachSight(t, trailGrids(t), func(g impl.Grid, k int) {
		r := mustRay(t, g, k)
		x := put(t, g, r.At, impl.Cell{Kind: impl.CellWall})
		if visits := impl.TrailVisits(x, k); !slices.Equal(visits, []impl.Visit{{At: r.At, Dir: r.Dir, Weight: 64}}) {
			t.Fatalf("%v, %d: %v", x, k, visits)
		}
		if ends := impl.TrailEnds(x, k); !slices.Equal(ends, []impl.End{{Kind: 1, Where: r.At, Weight: 64}}) {
			t.Fatalf("%v, %d: %v", x, k, ends)
		}
		for from := range impl.SightMany(x) {
			if got := impl.TrailTo(x, from, k); got != 0 {
				t.Fatalf("%v: from %d to %d goes %d", x, from, k, got)
			}
		}
	})
}

func TestPromise33LightOfLamps(t *testing.T) {
	some, most := 0, 0
	eachSight(t, trailGrids(t), func(g impl.Grid, k int) {
		want := 0
		for _, e := range impl.TrailEnds(g, k) {
			if e.Kind == impl.EndLamp {
				want += e.Weight * g.Cells[e.Where].Light
			}
		}
		got := impl.TrailLight(g, k)
		if got != want || got > 64*9 {
			t.Fatalf("%v, %d: %d, not %d", g, k, got, want)
		}
		if got > 0 {
			some++
		}
		most = max(most, got)
	})
	if some == 0 || most != 576 {
		t.Fatalf("%d sights are bright, up to %d", some, most)
	}
}

func TestPromise34BrighterLamp(t *testing.T) {
	brighter := 0
	eachSight(t, trailGrids(t), func(g impl.Grid, k int) {
		light, ends := impl.TrailLight(g, k), impl.TrailEnds(g, k)
		for at, c := range g.Cells {
			if c.Kind != impl.CellLamp || c.Light == 9 {
				continue
			}
			x := put(t, g, at, impl.Cell{Kind: impl.CellLamp, Light: c.Light + 1})
			more := sumOf(ends, impl.EndLamp, at)
			if got := impl.TrailLight(x, k); got != light+more {
				t.Fatalf("%v, %d: %d is, with a brighter lamp at %d, %d", g, k, light, at, got)
			}
			if more > 0 {
				brighter++
			}
		}
	})
	if brighter == 0 {
		t.Fatal("no lamp is seen")
	}
}

func TestPromise35HalfOfHalf(t *testing.T) {
	parts := []int{64, 32, 16, 8, 4, 2, 1}
	seen := map[int]int{}
	eachSight(t, trailGrids(t), func(g impl.Grid, k int) {
		for _, v := range impl.TrailVisits(g, k) {
			if !slices.Contains(parts, v.Weight) {
				t.Fatalf("%v, %d: the visit %v", g, k, v)
			}
			seen[v.Weight]++
		}
		for _, e := range impl.TrailEnds(g, k) {
			if e.Kind != impl.EndLost && !slices.Contains(parts, e.Weight) {
				t.Fatalf("%v, %d: the end %v", g, k, e)
			}
		}
	})
	if len(seen) != len(parts) {
		t.Fatalf("visits have %v", seen)
	}
}

func TestPromise36DimAtTheSight(t *testing.T) {
	dimmed, cut := 0, 0
	grids := slices.Concat(trailGrids(t), gridsOf(36, 12, "./\\xz:"))
	eachSight(t, grids, func(g impl.Grid, k int) {
		r := mustRay(t, g, k)
		visited := 0
		for _, v := range impl.TrailVisits(g, k) {
			if v.At == r.At {
				visited++
			}
		}
		if g.Cells[r.At].Kind != impl.CellFree || visited != 1 {
			return
		}
		left := make([]int, impl.SightMany(g))
		for _, e := range impl.TrailEnds(g, k) {
			if e.Kind == impl.EndOut {
				left[e.Where] += e.Weight / 2
				dimmed++
				cut += e.Weight % 2
			}
		}
		x := put(t, g, r.At, impl.Cell{Kind: impl.CellDim})
		for to, want := range left {
			if got := impl.TrailTo(x, k, to); got != want {
				t.Fatalf("%v: from %d to %d goes, dimmed, %d, not %d", g, k, to, got, want)
			}
		}
	})
	if dimmed == 0 || cut == 0 {
		t.Fatalf("%d ends are halved, of %d the half is cut off", dimmed, cut)
	}
}

func TestPromise37NeverBack(t *testing.T) {
	eachSight(t, clearGrids(), func(g impl.Grid, k int) {
		if got := impl.TrailTo(g, k, k); got != 0 {
			t.Fatalf("%v: at the sight %d, where it came in, leaves %d", g, k, got)
		}
		if ends := impl.TrailEnds(g, k); len(ends) == 0 || slices.Contains(ends, impl.End{Kind: impl.EndOut, Where: k, Weight: 64}) {
			t.Fatalf("%v, %d: %v", g, k, ends)
		}
	})
}

func TestPromise38MirrorsAlone(t *testing.T) {
	grids := slices.Concat(freeGrids(), gridsOf(38, 12, "./\\"), gridsOf(39, 4, "/\\"))
	eachSight(t, grids, func(g impl.Grid, k int) {
		var others []int
		for to := range impl.SightMany(g) {
			switch got := impl.TrailTo(g, k, to); got {
			case 0:
			case 64:
				others = append(others, to)
			default:
				t.Fatalf("%v: from %d to %d goes %d", g, k, to, got)
			}
		}
		if len(others) != 1 || others[0] == k {
			t.Fatalf("%v: all light of %d leaves at %v", g, k, others)
		}
		if back := impl.TrailTo(g, others[0], k); back != 64 {
			t.Fatalf("%v: from %d to %d goes all, and back %d", g, k, others[0], back)
		}
	})
}

// walled is a grid with walls instead of lamps.
func walled(g impl.Grid) impl.Grid {
	x := copyGrid(g)
	for at, c := range x.Cells {
		if c.Kind == impl.CellLamp {
			x.Cells[at] = impl.Cell{Kind: impl.CellWall}
		}
	}
	return x
}

func TestPromise39WallsInsteadOfLamps(t *testing.T) {
	lamps := 0
	eachSight(t, trailGrids(t), func(g impl.Grid, k int) {
		x := walled(g)
		visits := impl.TrailVisits(g, k)
		if len(visits) == 0 || !slices.Equal(impl.TrailVisits(x, k), visits) {
			t.Fatalf("%v, %d: other visits with walls", g, k)
		}
		want := slices.Clone(impl.TrailEnds(g, k))
		for i, e := range want {
			if e.Kind == impl.EndLamp {
				want[i].Kind = impl.EndWall
				lamps++
			}
		}
		if got := impl.TrailEnds(x, k); !slices.Equal(got, want) {
			t.Fatalf("%v, %d: with walls %v, not %v", g, k, got, want)
		}
	})
	if lamps == 0 {
		t.Fatal("no light ends in a lamp")
	}
}
