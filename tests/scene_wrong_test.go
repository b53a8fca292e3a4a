package tests

import (
	"maps"
	"math"
	"slices"
	"testing"

	"loop.example/lucarne/impl"
)

// change is a way to make of a scene one that is not that of its grid; false, if this scene has no room for it.
type change func(s *impl.Scene, k int) bool

// wrongLights is changes of how bright it is at a sight.
func wrongLights() map[string]change {
	return map[string]change{
		"one light more":        func(s *impl.Scene, k int) bool { s.Lights = append(s.Lights, s.Lights[k]); return true },
		"one light more, of 0":  func(s *impl.Scene, k int) bool { s.Lights = append(s.Lights, 0); return true },
		"one light less":        func(s *impl.Scene, k int) bool { s.Lights = slices.Delete(s.Lights, k, k+1); return true },
		"no lights":             func(s *impl.Scene, k int) bool { s.Lights = nil; return true },
		"twice the lights":      func(s *impl.Scene, k int) bool { s.Lights = slices.Repeat(s.Lights, 2); return true },
		"brighter by one":       func(s *impl.Scene, k int) bool { s.Lights[k]++; return true },
		"darker by one":         func(s *impl.Scene, k int) bool { s.Lights[k]--; return true },
		"the same as a byte":    func(s *impl.Scene, k int) bool { s.Lights[k] += 256; return true },
		"the same in 32 bits":   func(s *impl.Scene, k int) bool { s.Lights[k] += 1 << 32; return true },
		"as bright as can be":   func(s *impl.Scene, k int) bool { s.Lights[k] = math.MaxInt; return true },
		"darker than can be":    func(s *impl.Scene, k int) bool { s.Lights[k] = math.MinInt; return true },
		"lights of two changed": func(s *impl.Scene, k int) bool { s.Lights[0], s.Lights[k] = s.Lights[0]+1, s.Lights[k]-1; return k > 0 },
	}
}

// wrongFoot is changes of the places that a sight sees.
func wrongFoot() map[string]change {
	return map[string]change{
		"a place too many": func(s *impl.Scene, k int) bool {
			for at := range s.Grid.Cells {
				if !slices.Contains(s.Feet[k], at) {
					s.Feet[k] = append(s.Feet[k], at)
					slices.Sort(s.Feet[k])
					return true
				}
			}
			return false
		},
		"a place behind the last":  func(s *impl.Scene, k int) bool { s.Feet[k] = append(s.Feet[k], len(s.Grid.Cells)); return true },
		"a place below 0":          func(s *impl.Scene, k int) bool { s.Feet[k] = slices.Insert(s.Feet[k], 0, -1); return true },
		"a place twice":            func(s *impl.Scene, k int) bool { s.Feet[k] = slices.Insert(s.Feet[k], 0, s.Feet[k][0]); return true },
		"the first place too few":  func(s *impl.Scene, k int) bool { s.Feet[k] = s.Feet[k][1:]; return true },
		"the last place too few":   func(s *impl.Scene, k int) bool { s.Feet[k] = s.Feet[k][:len(s.Feet[k])-1]; return true },
		"no places":                func(s *impl.Scene, k int) bool { s.Feet[k] = nil; return true },
		"another place, the first": func(s *impl.Scene, k int) bool { s.Feet[k][0]--; return true },
		"another place, the last":  func(s *impl.Scene, k int) bool { s.Feet[k][len(s.Feet[k])-1]++; return true },
		"another order":            func(s *impl.Scene, k int) bool { slices.Reverse(s.Feet[k]); return len(s.Feet[k]) > 1 },
	}
}

// wrongFeet is changes of the list of feet.
func wrongFeet() map[string]change {
	return map[string]change{
		"one foot more":        func(s *impl.Scene, k int) bool { s.Feet = append(s.Feet, s.Feet[k]); return true },
		"one empty foot more":  func(s *impl.Scene, k int) bool { s.Feet = append(s.Feet, nil); return true },
		"one foot less":        func(s *impl.Scene, k int) bool { s.Feet = slices.Delete(s.Feet, k, k+1); return true },
		"no feet":              func(s *impl.Scene, k int) bool { s.Feet = nil; return true },
		"feet and lights less": func(s *impl.Scene, k int) bool { s.Feet, s.Lights = s.Feet[:k], s.Lights[:k]; return true },
		"two feet changed": func(s *impl.Scene, k int) bool {
			s.Feet[0], s.Feet[k] = s.Feet[k], s.Feet[0]
			return !slices.Equal(s.Feet[0], s.Feet[k])
		},
		"all feet in one": func(s *impl.Scene, k int) bool {
			s.Feet = [][]int{slices.Concat(s.Feet...)}
			return true
		},
	}
}

// wrongGridOf is changes of the grid, so that the rest is not its own.
func wrongGridOf() map[string]change {
	return map[string]change{
		"another lamp": func(s *impl.Scene, k int) bool {
			at := s.Feet[k][0]
			seen := s.Grid.Cells[at].Kind == impl.CellLamp
			s.Grid.Cells[at].Light = s.Grid.Cells[at].Light%9 + 1
			return seen
		},
		"a wall where light came on": func(s *impl.Scene, k int) bool {
			s.Grid.Cells[handSights(s.Grid)[k].At] = impl.Cell{Kind: impl.CellWall}
			return len(s.Feet[k]) > 1
		},
		"a cell that is not ok": func(s *impl.Scene, k int) bool { s.Grid.Cells[k%len(s.Grid.Cells)].Kind = 8; return true },
		"no cells":              func(s *impl.Scene, k int) bool { s.Grid.Cells = nil; return true },
		"one cell less":         func(s *impl.Scene, k int) bool { s.Grid.Cells = s.Grid.Cells[1:]; return true },
		"none in a row":         func(s *impl.Scene, k int) bool { s.Grid.Wide = 0; return true },
		"below none in a row":   func(s *impl.Scene, k int) bool { s.Grid.Wide = -s.Grid.Wide; return true },
		"rows instead of columns": func(s *impl.Scene, k int) bool {
			wide := s.Grid.Wide
			s.Grid.Wide = rowsOf(s.Grid)
			return s.Grid.Wide != wide
		},
	}
}

// wrongChanges is all of these.
func wrongChanges() map[string]change {
	all := map[string]change{}
	for _, changes := range []map[string]change{wrongLights(), wrongFoot(), wrongFeet(), wrongGridOf()} {
		maps.Copy(all, changes)
	}
	return all
}

// wrongScenes is scenes that are not that of their grid, made from that of an ok one.
func wrongScenes(g impl.Grid) []impl.Scene {
	var all []impl.Scene
	for _, wrong := range wrongChanges() {
		s := handScene(g)
		if wrong(&s, 1) {
			all = append(all, s)
		}
	}
	return all
}

func TestWrongScenes(t *testing.T) {
	tried := map[string]int{}
	for _, text := range []string{"5\n", "./5\n", ".\n/\n5\n", "x.\n:5\n", "/\\..\\\n\\x.1.\n..9..\n#..z.\n\\.:./\n"} {
		s := mustScene(t, mustRead(t, text))
		for why, wrong := range wrongChanges() {
			tried[why] += 0
			for k := range s.Lights {
				x := copyScene(s)
				if wrong(&x, k) {
					tried[why]++
					holdNoScene(t, why, x)
				}
			}
		}
	}
	for why, times := range tried {
		if times == 0 {
			t.Errorf("%s: there is none", why)
		}
	}
	holdNoScene(t, "nothing", impl.Scene{})
	holdNoScene(t, "very long lists", impl.Scene{Grid: mustRead(t, ".\n"), Lights: make([]int, 100000), Feet: make([][]int, 100000)})
}

func TestSceneOfAnotherGrid(t *testing.T) {
	all := slices.Concat(roundGrids(t), wholeGrids(), gridsOf(14, 1, ".#/\\xz:159"))
	for i, g := range all {
		s, other := mustScene(t, g), mustScene(t, all[(i+1)%len(all)])
		mixed := impl.Scene{Grid: other.Grid, Lights: s.Lights, Feet: s.Feet}
		if sameScene(mixed, other) {
			continue
		}
		holdNoScene(t, "another grid", mixed)
	}
}

func TestSceneOkWithSpareRoom(t *testing.T) {
	for _, g := range sceneGrids(t) {
		s := lendScene(&loan{}, mustScene(t, g))
		if !impl.SceneOk(s) {
			t.Fatalf("not ok with spare room: %v", s)
		}
		// What lies in spare room does not count.
		short := s
		short.Lights = s.Lights[:len(s.Lights)-1]
		holdNoScene(t, "a light in spare room", short)
		short = s
		short.Feet = s.Feet[:len(s.Feet)-1]
		holdNoScene(t, "a foot in spare room", short)
	}
}
