package tests

import (
	"slices"
	"testing"

	"loop.example/lucarne/impl"
)

// lendScene is a scene all of whose lists lie amid longer ones.
func lendScene(to *loan, s impl.Scene) impl.Scene {
	return impl.Scene{Grid: lendGrid(to, s.Grid), Lights: lendInts(to, s.Lights), Feet: lendRows(to, s.Feet)}
}

// sceneAnswer is what is answered of a scene.
type sceneAnswer struct {
	scene  impl.Scene
	sights []int
	ok     bool
}

func (a sceneAnswer) copied() sceneAnswer {
	return sceneAnswer{copyScene(a.scene), slices.Clone(a.sights), a.ok}
}

func (a sceneAnswer) same(other sceneAnswer) bool {
	return a.ok == other.ok && slices.Equal(a.sights, other.sights) && sameScene(a.scene, other.scene)
}

// spoil writes over all lists of an answer, spare room included, and fails if two of them share any.
func (a sceneAnswer) spoil(t *testing.T, g impl.Grid) {
	t.Helper()
	cells := slices.Clone(a.scene.Grid.Cells)
	spoilRows(t, g, append([][]int{a.scene.Lights, a.sights}, a.scene.Feet...))
	spoilAll(a.scene.Feet, []int{-9})
	if !slices.Equal(a.scene.Grid.Cells, cells) {
		t.Fatalf("%v: the cells of an answer change with its numbers", g)
	}
	spoil(a.scene.Grid)
}

// sceneAsks is all that is asked of a scene, and answers lists; edits lie amid a longer list, as a scene's lists do.
func sceneAsks(g impl.Grid, list []impl.Edit) map[string]func(impl.Scene) sceneAnswer {
	many := func(s impl.Scene, list []impl.Edit) sceneAnswer {
		x, anew, ok := impl.SceneMany(s, list)
		return sceneAnswer{x, anew, ok}
	}
	one := func(s impl.Scene, e impl.Edit) sceneAnswer {
		x, anew, ok := impl.SceneEdit(s, e)
		return sceneAnswer{x, anew, ok}
	}
	last := len(g.Cells) - 1
	return map[string]func(impl.Scene) sceneAnswer{
		"SceneNew": func(s impl.Scene) sceneAnswer {
			x, ok := impl.SceneNew(s.Grid)
			return sceneAnswer{x, nil, ok}
		},
		"SceneTouch, first":        func(s impl.Scene) sceneAnswer { return sceneAnswer{sights: impl.SceneTouch(s, 0)} },
		"SceneTouch, last":         func(s impl.Scene) sceneAnswer { return sceneAnswer{sights: impl.SceneTouch(s, last)} },
		"SceneTouch, none":         func(s impl.Scene) sceneAnswer { return sceneAnswer{sights: impl.SceneTouch(s, -1)} },
		"SceneOk":                  func(s impl.Scene) sceneAnswer { return sceneAnswer{ok: impl.SceneOk(s)} },
		"SceneEdit, first":         func(s impl.Scene) sceneAnswer { return one(s, edit(0, "#")) },
		"SceneEdit, last":          func(s impl.Scene) sceneAnswer { return one(s, edit(last, "9")) },
		"SceneEdit, what is there": func(s impl.Scene) sceneAnswer { return one(s, impl.Edit{At: last, Cell: g.Cells[last]}) },
		"SceneEdit, past the end":  func(s impl.Scene) sceneAnswer { return one(s, edit(last+1, ".")) },
		"SceneMany, none":          func(s impl.Scene) sceneAnswer { return many(s, nil) },
		"SceneMany, some":          func(s impl.Scene) sceneAnswer { return many(s, list[:3]) },
		"SceneMany, all":           func(s impl.Scene) sceneAnswer { return many(s, list[:20]) },
		"SceneMany, too many":      func(s impl.Scene) sceneAnswer { return many(s, list) },
		"SceneMany, a wrong one":   func(s impl.Scene) sceneAnswer { return many(s, append(slices.Clone(list[:3]), edit(-1, "."))) },
	}
}

func TestScenesAreNewMemory(t *testing.T) {
	d := &dice{7}
	for _, g := range append(sceneGrids(t), mustRead(t, "###\n#.#\n###\n")) {
		s := handScene(g)
		for name, ask := range sceneAsks(g, rolledEdits(d, g, 21)) {
			holdNewAnswer(t, name, g, s, lendScene, ask)
		}
	}
}

func TestScenesWriteNothingIntoEdits(t *testing.T) {
	d := &dice{8}
	for _, g := range sceneGrids(t) {
		s := mustScene(t, g)
		for _, many := range []int{0, 1, 2, 20, 21} {
			whole, list := lentOf(rolledEdits(d, g, many), impl.Edit{At: -7, Cell: impl.Cell{Kind: -7, Light: -7}})
			ahead := slices.Clone(whole)
			x, anew, ok := impl.SceneMany(s, list)
			if !slices.Equal(whole, ahead) {
				t.Fatalf("%v: the edits are written into, or around them: %v", g, whole)
			}
			want := sceneAnswer{x, anew, ok}.copied()
			spoilAll(whole, impl.Edit{At: -8})
			if !want.same(sceneAnswer{x, anew, ok}) {
				t.Fatalf("%v: the answer changes with the edits", g)
			}
		}
	}
}

func TestWrongScenesAreNotWritten(t *testing.T) {
	for _, text := range []string{"./5\n", "x.\n:5\n"} {
		s := mustScene(t, mustRead(t, text))
		for why, wrong := range wrongChanges() {
			x := copyScene(s)
			if wrong(&x, 1) {
				holdNotWritten(t, why, x, lendScene, holdNoScene)
			}
		}
	}
}

func TestScenesAreTheSameEveryTime(t *testing.T) {
	d := &dice{9}
	for _, g := range slices.Concat(roundGrids(t), wholeGrids()) {
		s, list := mustScene(t, g), rolledEdits(d, g, 6)
		x, anew := handScene(handPut(g, list...)), handTouches(g, list)
		for range 60 {
			if y, same := mustMany(t, s, list...); !sameScene(y, x) || !slices.Equal(same, anew) {
				t.Fatalf("%v with %v is %v, %v, not %v, %v", g, list, y, same, x, anew)
			}
			if touch := impl.SceneTouch(s, list[0].At); !slices.Equal(touch, handTouch(g, list[0].At)) {
				t.Fatalf("%v: %v see %d", g, touch, list[0].At)
			}
		}
	}
}
