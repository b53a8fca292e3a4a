package tests

import (
	"slices"
	"testing"

	"loop.example/lucarne/impl"
)

func TestPromise47SceneNewIsOk(t *testing.T) {
	bright := 0
	for _, g := range slices.Concat(trailGrids(t), picGrids(t), allGrids(2, 1)) {
		s, ok := impl.SceneNew(g)
		if !ok || !impl.SceneOk(s) {
			t.Fatalf("SceneNew(%v) is %v, %v", g, s, ok)
		}
		if !sameGrid(s.Grid, g) || !slices.Equal(s.Lights, impl.PicOf(g)) || len(s.Feet) != impl.SightMany(g) {
			t.Fatalf("SceneNew(%v) is %v", g, s)
		}
		for k, foot := range s.Feet {
			if len(foot) == 0 || !slices.Equal(foot, impl.TrailFoot(g, k)) {
				t.Fatalf("%v: the foot of %d is %v", g, k, foot)
			}
		}
		if want := handScene(g); !sameScene(s, want) || !impl.SceneOk(want) {
			t.Fatalf("SceneNew(%v) is %v, not %v", g, s, want)
		}
		bright += slices.Max(s.Lights)
	}
	if bright == 0 {
		t.Fatal("no sight is bright")
	}
}

func TestPromise48Same(t *testing.T) {
	eachEdit(t, sceneGrids(t), func(s impl.Scene, e impl.Edit) {
		x, _ := mustEdit(t, s, e)
		if want := mustScene(t, put(t, s.Grid, e.At, e.Cell)); !sameScene(x, want) {
			t.Fatalf("%v with %v is %v, not %v", s.Grid, e, x, want)
		}
		if want := handScene(handPut(s.Grid, e)); !sameScene(x, want) {
			t.Fatalf("%v with %v is %v, by hand %v", s.Grid, e, x, want)
		}
	})
}

func TestPromise49NoMore(t *testing.T) {
	spared, changed := 0, 0
	eachEdit(t, sceneGrids(t), func(s impl.Scene, e impl.Edit) {
		x, anew := mustEdit(t, s, e)
		if touch := impl.SceneTouch(s, e.At); !slices.Equal(anew, touch) {
			t.Fatalf("%v with %v: %v look anew, not %v", s.Grid, e, anew, touch)
		}
		if touch := handTouch(s.Grid, e.At); !slices.Equal(anew, touch) {
			t.Fatalf("%v with %v: %v look anew, by hand %v", s.Grid, e, anew, touch)
		}
		for k := range s.Lights {
			same := x.Lights[k] == s.Lights[k] && slices.Equal(x.Feet[k], s.Feet[k])
			switch looks := slices.Contains(anew, k); {
			case !looks && !same:
				t.Fatalf("%v with %v: the sight %d changes, and does not look", s.Grid, e, k)
			case !looks:
				spared++
			case !same:
				changed++
			}
		}
	})
	if spared == 0 || changed == 0 {
		t.Fatalf("%d times a sight did not look, %d times it saw something else", spared, changed)
	}
}

func TestPromise50Touch(t *testing.T) {
	for _, g := range slices.Concat(trailGrids(t), sceneGrids(t)) {
		s := mustScene(t, g)
		all, feet := 0, 0
		for at := range g.Cells {
			var want []int
			for k := range impl.SightMany(g) {
				if slices.Contains(impl.TrailFoot(g, k), at) {
					want = append(want, k)
				}
			}
			touch := impl.SceneTouch(s, at)
			if !slices.Equal(touch, want) || !slices.Equal(touch, handTouch(g, at)) {
				t.Fatalf("%v: %v see %d, not %v", g, touch, at, want)
			}
			all += len(touch)
		}
		for _, foot := range s.Feet {
			feet += len(foot)
		}
		if all != feet || all == 0 {
			t.Fatalf("%v: all places are seen %d times, all feet have %d", g, all, feet)
		}
	}
}

func TestPromise51ManyIsOneBehindTheOther(t *testing.T) {
	d := &dice{51}
	again := 0
	for _, g := range sceneGrids(t) {
		s := mustScene(t, g)
		for _, many := range []int{0, 1, 2, 3, 5, 8, 19, 20} {
			list := rolledEdits(d, g, many)
			x, _ := mustMany(t, s, list...)
			if want := mustAllOf(t, s, list); !sameScene(x, want) {
				t.Fatalf("%v with %v is %v, one by one %v", g, list, x, want)
			}
			if want := handScene(handPut(g, list...)); !sameScene(x, want) || !impl.SceneOk(x) {
				t.Fatalf("%v with %v is %v, by hand %v", g, list, x, want)
			}
			if many > len(g.Cells) {
				again++
			}
		}
	}
	if again == 0 {
		t.Fatal("no place has two edits")
	}
}

func TestPromise52SightsOfMany(t *testing.T) {
	d := &dice{52}
	doubled, none, all := 0, 0, 0
	for _, g := range sceneGrids(t) {
		s := mustScene(t, g)
		for _, many := range []int{0, 1, 2, 3, 6, 20} {
			list := rolledEdits(d, g, many)
			var want []int
			for _, e := range list {
				want = append(want, impl.SceneTouch(s, e.At)...)
			}
			told := len(want)
			slices.Sort(want)
			want = slices.Compact(want)
			_, anew := mustMany(t, s, list...)
			if !slices.Equal(anew, want) || !slices.Equal(anew, handTouches(g, list)) {
				t.Fatalf("%v with %v: %v look anew, not %v", g, list, anew, want)
			}
			switch {
			case len(want) == 0:
				none++
			case len(want) == len(s.Lights):
				all++
			case told > len(want):
				doubled++
			}
		}
	}
	if doubled == 0 || none == 0 || all == 0 {
		t.Fatalf("%d times a sight sees two places, %d times none looks, %d times all do", doubled, none, all)
	}
}

func TestPromise53ThereAndBack(t *testing.T) {
	changed := 0
	eachEdit(t, sceneGrids(t), func(s impl.Scene, e impl.Edit) {
		x, there := mustEdit(t, s, e)
		y, back := mustEdit(t, x, impl.Edit{At: e.At, Cell: s.Grid.Cells[e.At]})
		if !sameScene(y, s) {
			t.Fatalf("%v with %v, and back, is %v, not %v", s.Grid, e, y, s)
		}
		if !slices.Equal(there, back) {
			t.Fatalf("%v with %v: %v look anew, and back %v", s.Grid, e, there, back)
		}
		if !sameRows(x.Feet, s.Feet) {
			changed++
		}
	})
	if changed == 0 {
		t.Fatal("no edit changes who sees what")
	}
}

func TestPromise54WhatIsThere(t *testing.T) {
	for _, g := range slices.Concat(sceneGrids(t), gridsOf(54, 2, ".#/\\xz:123456789")) {
		s := mustScene(t, g)
		for at, c := range g.Cells {
			x, anew := mustEdit(t, s, impl.Edit{At: at, Cell: c})
			// They look, and see what they saw.
			if !sameScene(x, s) || !slices.Equal(anew, impl.SceneTouch(s, at)) {
				t.Fatalf("%v with %v at %d, as it was: %v, %v", g, c, at, x, anew)
			}
		}
		if x, anew := mustMany(t, s); !sameScene(x, s) || len(anew) != 0 {
			t.Fatalf("%v without edits: %v, %v", g, x, anew)
		}
	}
}

func TestPromise55EitherOrder(t *testing.T) {
	d := &dice{55}
	one, two, differ := 0, 0, 0
	for _, g := range sceneGrids(t) {
		s := mustScene(t, g)
		for range 12 {
			pair := rolledEdits(d, g, 2)
			a, b := pair[0], pair[1]
			x, anew := mustMany(t, s, a, b)
			if a.At == b.At {
				one++
				if second, same := mustEdit(t, s, b); !sameScene(x, second) || !slices.Equal(anew, same) {
					t.Fatalf("%v with %v, %v is %v, %v, with the second %v, %v", g, a, b, x, anew, second, same)
				}
				continue
			}
			two++
			y, same := mustMany(t, s, b, a)
			if !sameScene(x, y) || !slices.Equal(anew, same) {
				t.Fatalf("%v with %v, %v is %v, %v, the other way %v, %v", g, a, b, x, anew, y, same)
			}
			// That one edit changes who sees the place of the other one is what makes the order matter, if anything does.
			if !slices.Equal(handTouch(g, b.At), handTouch(handPut(g, a), b.At)) {
				differ++
			}
		}
	}
	if one == 0 || two == 0 || differ == 0 {
		t.Fatalf("%d pairs at one place, %d at two, of which %d meddle with each other", one, two, differ)
	}
}

func TestPromise56NobodySeesIt(t *testing.T) {
	unseen := 0
	rings := []impl.Grid{mustRead(t, "###\n#.#\n###\n"), mustRead(t, "#####\n#x./#\n#.9:#\n#\\.z#\n#####\n"), mustRead(t, "1234\n5##6\n7##8\n9123\n")}
	eachEdit(t, slices.Concat(sceneGrids(t), rings), func(s impl.Scene, e impl.Edit) {
		if len(impl.SceneTouch(s, e.At)) > 0 {
			return
		}
		unseen++
		x, anew := mustEdit(t, s, e)
		if len(anew) != 0 {
			t.Fatalf("%v with %v, which nobody sees: %v look anew", s.Grid, e, anew)
		}
		if !slices.Equal(x.Lights, s.Lights) || !sameRows(x.Feet, s.Feet) || !sameGrid(x.Grid, handPut(s.Grid, e)) || !impl.SceneOk(x) {
			t.Fatalf("%v with %v, which nobody sees, is %v, not %v", s.Grid, e, x, s)
		}
	})
	if unseen == 0 {
		t.Fatal("all places are seen")
	}
}

func TestPromise57TurnedAndInAMirror(t *testing.T) {
	differ := 0
	for _, g := range slices.Concat(trailGrids(t), sceneGrids(t)) {
		s, round, mirrored := mustScene(t, g), mustScene(t, impl.GridTurn(g)), mustScene(t, impl.GridFlip(g))
		for k, light := range s.Lights {
			turn, flip := impl.SightTurn(g, k), impl.SightFlip(g, k)
			if round.Lights[turn] != light || len(round.Feet[turn]) != len(s.Feet[k]) {
				t.Fatalf("%v: the sight %d is %d and sees %v, turned %d and %v", g, k, light, s.Feet[k], round.Lights[turn], round.Feet[turn])
			}
			if mirrored.Lights[flip] != light || len(mirrored.Feet[flip]) != len(s.Feet[k]) {
				t.Fatalf("%v: the sight %d is %d and sees %v, flipped %d and %v", g, k, light, s.Feet[k], mirrored.Lights[flip], mirrored.Feet[flip])
			}
		}
		if !slices.Equal(s.Lights, round.Lights) && !slices.Equal(s.Lights, mirrored.Lights) {
			differ++
		}
	}
	if differ == 0 {
		t.Fatal("no scene becomes another one by turning")
	}
}
