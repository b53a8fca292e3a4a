package tests

import (
	"fmt"
	"slices"
	"strings"
	"testing"

	"loop.example/lucarne/impl"
)

func TestTrailNames(t *testing.T) {
	if impl.RayMax != 64 {
		t.Error("another light comes in")
	}
	if impl.EndOut != 0 || impl.EndWall != 1 || impl.EndLamp != 2 || impl.EndLost != 3 {
		t.Error("the ends have other numbers")
	}
}

// holdTrail holds all that is told of a sight against a trail that was made without the program's help.
func holdTrail(t *testing.T, g impl.Grid, k int, want handTrail) {
	t.Helper()
	if got := impl.TrailVisits(g, k); !slices.Equal(got, want.visits) {
		t.Fatalf("TrailVisits(%v, %d) is %v, not %v", g, k, got, want.visits)
	}
	if got := impl.TrailEnds(g, k); !slices.Equal(got, want.ends) {
		t.Fatalf("TrailEnds(%v, %d) is %v, not %v", g, k, got, want.ends)
	}
	if got := impl.TrailFoot(g, k); !slices.Equal(got, want.foot()) {
		t.Fatalf("TrailFoot(%v, %d) is %v, not %v", g, k, got, want.foot())
	}
	if got := impl.TrailLight(g, k); got != want.light(g) {
		t.Fatalf("TrailLight(%v, %d) is %d, not %d", g, k, got, want.light(g))
	}
	for to := range len(handSights(g)) {
		if got := impl.TrailTo(g, k, to); got != want.to(to) {
			t.Fatalf("TrailTo(%v, %d, %d) is %d, not %d", g, k, to, got, want.to(to))
		}
	}
}

func TestTrailOfEachSight(t *testing.T) {
	eachSight(t, trailGrids(t), func(g impl.Grid, k int) {
		holdTrail(t, g, k, handTrailOf(g, k))
	})
}

func TestTrailsOfAllFourCells(t *testing.T) {
	cells := cellsOf(".#/\\xz:5")
	for number := range 8 * 8 * 8 * 8 {
		g := impl.Grid{Wide: 2, Cells: []impl.Cell{cells[number%8], cells[number/8%8], cells[number/64%8], cells[number/512]}}
		for k := range 8 {
			holdTrail(t, g, k, handTrailOf(g, k))
		}
	}
}

// visitsText is visits as they are written in this file: the place, the way, and how much.
func visitsText(visits []impl.Visit) string {
	var words []string
	for _, v := range visits {
		words = append(words, fmt.Sprintf("%d%c%d", v.At, "^>v<"[v.Dir], v.Weight))
	}
	return strings.Join(words, " ")
}

// endsText is ends as they are written in this file: how, where, and how much.
func endsText(ends []impl.End) string {
	var words []string
	for _, e := range ends {
		words = append(words, fmt.Sprintf("%s%d:%d", [4]string{"out", "wall", "lamp", "lost"}[e.Kind], e.Where, e.Weight))
	}
	return strings.Join(words, " ")
}

// holdWritten holds a trail against what is written out by hand.
func holdWritten(t *testing.T, g impl.Grid, k int, visits, ends string) {
	t.Helper()
	if got := visitsText(impl.TrailVisits(g, k)); got != visits {
		t.Errorf("%q, %d: the visits %s, not %s", impl.GridText(g), k, got, visits)
	}
	if got := endsText(impl.TrailEnds(g, k)); got != ends {
		t.Errorf("%q, %d: the ends %s, not %s", impl.GridText(g), k, got, ends)
	}
}

func TestTrailsByHand(t *testing.T) {
	for _, x := range []struct {
		text         string
		k            int
		visits, ends string
		foot         []int
		light        int
	}{
		{"zx\n#1\n", 0, "0v64 2v32 1>32", "wall2:32 out2:16 out1:16", []int{0, 1, 2}, 0},
		{"zx\n#1\n", 1, "1v64 3v32 0<32", "lamp3:32 out7:16 out0:16", []int{0, 1, 3}, 32},
		{":9\n", 5, "0>64 1>32", "lost0:32 lamp1:32", []int{0, 1}, 288},
		{":9\n", 2, "1<64", "lamp1:64", []int{1}, 576},
		{":9\n", 0, "0v64", "lost0:32 out4:32", []int{0}, 0},
		{"xx3\n\\.8\n", 9, "0>64 1>32 2>16", "lamp2:16 out1:16 out0:32", []int{0, 1, 2}, 48},
		{"xx3\n\\.8\n", 0, "0v64 3v32 4>32 5>32", "lamp5:32 out9:32", []int{0, 3, 4, 5}, 256},
		// The lamp is seen twice, by two ways.
		{"z\\\n\\5\n", 7, "0>64 1>32 3v32 2v32 3>32", "lamp3:32 lamp3:32", []int{0, 1, 2, 3}, 320},
		// Two lamps are seen.
		{"z9\n1#\n", 0, "0v64 2v32 1>32", "lamp2:32 lamp1:32", []int{0, 1, 2}, 320},
		// Without glass no light comes into a circle of mirrors.
		{"/\\\n\\/\n", 0, "0v64", "out7:64", []int{0}, 0},
		// Light leaves at the sight where it came in, and goes both ways round ahead of that.
		{"/x\n\\/\n", 1, "1v64 3v32 2<32 0^32 1>32 0<32 2v32 3>32 1^32", "out2:16 out1:16 out1:16 out2:16", []int{0, 1, 2, 3}, 0},
	} {
		g := mustRead(t, x.text)
		holdWritten(t, g, x.k, x.visits, x.ends)
		if got := impl.TrailFoot(g, x.k); !slices.Equal(got, x.foot) {
			t.Errorf("%q, %d: the foot %v", x.text, x.k, got)
		}
		if got := impl.TrailLight(g, x.k); got != x.light {
			t.Errorf("%q, %d: the light %d", x.text, x.k, got)
		}
	}
}

func TestHalfOfOne(t *testing.T) {
	const ahead = "0>64 1>32 2>16 3>8 4>4 9v4 8<4 7<2 6<1"
	const lost = "lost0:32 lost1:16 lost2:8 lost3:4 lost8:2 lost7:1 "
	// Behind six that dim there is 1; half of it is none, so that the cell behind the seventh is not visited.
	for _, x := range []struct{ text, visits, ends string }{
		{"::::\\\n::::/\n", ahead, lost + "lost6:1"},
		{"::::\\\n.x::/\n", ahead, lost + "lost6:1"},
		{"::::\\\n.z::/\n", ahead, lost + "lost6:1"},
		{"::::\\\n.#::/\n", ahead, lost + "wall6:1"},
		{"::::\\\n.1::/\n", ahead, lost + "lamp6:1"},
		{"::::\\\n..::/\n", ahead + " 5<1", lost + "out12:1"},
		{"::::\\\n:.::/\n", ahead + " 5<1", lost + "lost5:1"},
		{"::::\\\n.\\::/\n", ahead + " 1^1", lost + "lost1:1"},
	} {
		holdWritten(t, mustRead(t, x.text), 13, x.visits, x.ends)
	}
}

func TestBackWhereItCameIn(t *testing.T) {
	if got := impl.TrailTo(mustRead(t, "/x\n\\/\n"), 1, 1); got != 32 {
		t.Errorf("%d comes back", got)
	}
}

func TestRoundAndRoundBehindGlass(t *testing.T) {
	g := mustRead(t, "x\\\n\\/\n")
	want := handTrail{visits: []impl.Visit{{At: 0, Dir: 2, Weight: 64}}}
	for _, weight := range []int{32, 16, 8, 4, 2, 1} {
		want.visits = append(want.visits,
			impl.Visit{At: 2, Dir: 2, Weight: weight}, impl.Visit{At: 3, Dir: 1, Weight: weight},
			impl.Visit{At: 1, Dir: 0, Weight: weight}, impl.Visit{At: 0, Dir: 3, Weight: weight})
	}
	// Half of 1 is none; what was turned at first ends behind all that went round.
	want.ends = []impl.End{{Kind: 0, Where: 7, Weight: 16}, {Kind: 0, Where: 7, Weight: 8}, {Kind: 0, Where: 7, Weight: 4},
		{Kind: 0, Where: 7, Weight: 2}, {Kind: 0, Where: 7, Weight: 1}, {Kind: 3, Where: 0, Weight: 1}, {Kind: 0, Where: 7, Weight: 32}}
	holdTrail(t, g, 0, want)
	if there, back := impl.TrailTo(g, 0, 7), impl.TrailTo(g, 7, 0); there != 63 || back != 63 {
		t.Errorf("%d, and back %d", there, back)
	}
}

func TestWideRoundBehindGlass(t *testing.T) {
	g := mustRead(t, "x...\\\n.....\n..#..\n.....\n\\.../\n")
	if visits := impl.TrailVisits(g, 0); len(visits) != 1+6*16 || visits[96] != (impl.Visit{At: 0, Dir: 3, Weight: 1}) {
		t.Errorf("%d visits: %v", len(visits), visits)
	}
	if foot := impl.TrailFoot(g, 0); !slices.Equal(foot, []int{0, 1, 2, 3, 4, 5, 9, 10, 14, 15, 19, 20, 21, 22, 23, 24}) {
		t.Errorf("the foot %v", foot)
	}
	if out, lost := impl.TrailTo(g, 0, 19), sumOf(impl.TrailEnds(g, 0), 3, 0); out != 63 || lost != 1 {
		t.Errorf("%d leaves, %d is lost", out, lost)
	}
}

func TestTrailsOfOneCell(t *testing.T) {
	onward, bySlash, byBack := [4]int{2, 3, 0, 1}, [4]int{3, 2, 1, 0}, [4]int{1, 0, 3, 2}
	for _, s := range signedCells() {
		g := impl.Grid{Wide: 1, Cells: []impl.Cell{s.cell}}
		for k, dir := range [4]int{2, 3, 0, 1} {
			var ends []impl.End
			switch s.sign {
			case '.':
				ends = []impl.End{{Kind: 0, Where: onward[k], Weight: 64}}
			case '#':
				ends = []impl.End{{Kind: 1, Where: 0, Weight: 64}}
			case '/':
				ends = []impl.End{{Kind: 0, Where: bySlash[k], Weight: 64}}
			case '\\':
				ends = []impl.End{{Kind: 0, Where: byBack[k], Weight: 64}}
			case 'x':
				ends = []impl.End{{Kind: 0, Where: onward[k], Weight: 32}, {Kind: 0, Where: bySlash[k], Weight: 32}}
			case 'z':
				ends = []impl.End{{Kind: 0, Where: onward[k], Weight: 32}, {Kind: 0, Where: byBack[k], Weight: 32}}
			case ':':
				ends = []impl.End{{Kind: 3, Where: 0, Weight: 32}, {Kind: 0, Where: onward[k], Weight: 32}}
			default:
				ends = []impl.End{{Kind: 2, Where: 0, Weight: 64}}
			}
			holdTrail(t, g, k, handTrail{[]impl.Visit{{At: 0, Dir: dir, Weight: 64}}, ends})
		}
	}
}

// whole is five by five full of one kind of cell.
func whole(t *testing.T, sign string) impl.Grid {
	t.Helper()
	return impl.Grid{Wide: 5, Cells: slices.Repeat(mustRead(t, sign+"\n").Cells, 25)}
}

func TestTrailsOfFiveByFive(t *testing.T) {
	for _, x := range []struct {
		sign         string
		k            int
		visits, ends string
	}{
		{"x", 0, "0v64 5v32 10v16 15v8 20v4", "out14:2 out15:2 out16:4 out17:8 out18:16 out19:32"},
		{"z", 4, "4v64 9v32 14v16 19v8 24v4", "out10:2 out9:2 out8:4 out7:8 out6:16 out5:32"},
		{":", 7, "14<64 13<32 12<16 11<8 10<4", "lost14:32 lost13:16 lost12:8 lost11:4 lost10:2 out17:2"},
		{"9", 15, "20>64", "lamp20:64"},
		{"1", 9, "24<64", "lamp24:64"},
		{"#", 2, "2v64", "wall2:64"},
		{".", 19, "0>64 1>64 2>64 3>64 4>64", "out5:64"},
		{"/", 4, "4v64 3<64 8v64 7<64 12v64 11<64 16v64 15<64 20v64", "out15:64"},
	} {
		holdWritten(t, whole(t, x.sign), x.k, x.visits, x.ends)
	}
}

func TestLampsAsBrightAndAsDarkAsCanBe(t *testing.T) {
	for k := range 20 {
		if bright, dark := impl.TrailLight(whole(t, "9"), k), impl.TrailLight(whole(t, "1"), k); bright != 576 || dark != 64 {
			t.Errorf("the sight %d: %d, %d", k, bright, dark)
		}
		for _, sign := range []string{"x", "z", ":", "#", "."} {
			if got := impl.TrailLight(whole(t, sign), k); got != 0 {
				t.Errorf("%s, the sight %d: %d without a lamp", sign, k, got)
			}
		}
	}
}

func TestToASightWhoseNumberIsAPlace(t *testing.T) {
	// Light ends in the cell 1, or is lost there, which is not the sight 1.
	for _, text := range []string{".#\n", ".9\n", ".:\n"} {
		if got := impl.TrailTo(mustRead(t, text), 5, 1); got != 0 {
			t.Errorf("%q: %d", text, got)
		}
	}
}

// noTrail says whether all that is asked of a sight is answered as if there were none.
func noTrail(g impl.Grid, k int) bool {
	return len(impl.TrailVisits(g, k)) == 0 && len(impl.TrailEnds(g, k)) == 0 && len(impl.TrailFoot(g, k)) == 0 && impl.TrailLight(g, k) == 0
}

func TestTrailsOfNoSuchSight(t *testing.T) {
	for _, g := range trailGrids(t) {
		many := len(handSights(g))
		wrong := wrongSights(many)
		for _, k := range wrong {
			if !noTrail(g, k) {
				t.Fatalf("%v has no sight %d, and light comes in there", g, k)
			}
			for _, to := range wrong {
				if got := impl.TrailTo(g, k, to); got != 0 {
					t.Fatalf("%v: from %d, which is none, to %d, which is none, goes %d", g, k, to, got)
				}
			}
			for other := range many {
				if got := impl.TrailTo(g, k, other); got != 0 {
					t.Fatalf("%v: from %d, which is none, to %d goes %d", g, k, other, got)
				}
				if got := impl.TrailTo(g, other, k); got != 0 {
					t.Fatalf("%v: from %d to %d, which is none, goes %d", g, other, k, got)
				}
			}
		}
	}
}

func TestTrailsOfWrongGrids(t *testing.T) {
	for why, g := range wrongGrids() {
		sights := wrongSights(0)
		for k := range 25 {
			sights = append(sights, k)
		}
		for _, k := range sights {
			if !noTrail(g, k) {
				t.Errorf("%s: light comes in at the sight %d", why, k)
			}
			for _, to := range sights {
				if got := impl.TrailTo(g, k, to); got != 0 {
					t.Errorf("%s: from %d to %d goes %d", why, k, to, got)
				}
			}
		}
	}
}

func TestTrailsEndAtTheEndInSpareRoom(t *testing.T) {
	g := impl.Grid{Wide: 2, Cells: freeCells(6)[:4]}
	holdTrail(t, g, 0, handTrail{[]impl.Visit{{At: 0, Dir: 2, Weight: 64}, {At: 2, Dir: 2, Weight: 64}}, []impl.End{{Kind: 0, Where: 5, Weight: 64}}})
}
