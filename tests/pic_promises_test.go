package tests

import (
	"slices"
	"strconv"
	"strings"
	"testing"

	"loop.example/lucarne/impl"
)

func TestPromise40TrailLightOfEachSight(t *testing.T) {
	bright := 0
	for _, g := range picGrids(t) {
		for k, got := range mustPic(t, g) {
			if want := impl.TrailLight(g, k); got != want {
				t.Fatalf("%v: the sight %d is %d, not %d", g, k, got, want)
			}
			if got > 0 {
				bright++
			}
		}
	}
	if bright == 0 {
		t.Fatal("no sight is bright")
	}
}

func TestPromise41TurnedAndInAMirror(t *testing.T) {
	differ := 0
	for _, g := range picGrids(t) {
		pic, round, mirrored := mustPic(t, g), mustPic(t, impl.GridTurn(g)), mustPic(t, impl.GridFlip(g))
		for k, want := range pic {
			if got := round[impl.SightTurn(g, k)]; got != want {
				t.Fatalf("%v: the sight %d is %d, turned %d", g, k, want, got)
			}
			if got := mirrored[impl.SightFlip(g, k)]; got != want {
				t.Fatalf("%v: the sight %d is %d, flipped %d", g, k, want, got)
			}
		}
		if !slices.Equal(pic, round) && !slices.Equal(pic, mirrored) {
			differ++
		}
	}
	if differ == 0 {
		t.Fatal("no picture becomes another one by turning")
	}
}

func TestPromise42WithoutLamps(t *testing.T) {
	walls, goes := 0, 0
	for _, g := range picGrids(t) {
		x := walled(g)
		for k, light := range mustPic(t, x) {
			if light != 0 {
				t.Fatalf("%v: the sight %d is %d without a lamp", x, k, light)
			}
		}
		to := mustTo(t, g)
		if with := mustTo(t, x); !sameRows(with, to) {
			t.Fatalf("%v: with walls instead of lamps %v goes, not %v", g, with, to)
		}
		if len(lampsOf(g)) > 0 {
			walls++
			goes += slices.Max(slices.Concat(to...))
		}
	}
	if walls == 0 || goes == 0 {
		t.Fatalf("%d grids have lamps, %d of light goes from sight to sight there", walls, goes)
	}
}

func TestPromise43AsItCame(t *testing.T) {
	all, some, none := 0, 0, 0
	for _, g := range picGrids(t) {
		rows := mustTo(t, g)
		for k, row := range rows {
			sum := 0
			for to, there := range row {
				if there != impl.TrailTo(g, k, to) || there < 0 {
					t.Fatalf("%v: from %d to %d goes %d", g, k, to, there)
				}
				if back := rows[to][k]; back != there {
					t.Fatalf("%v: from %d to %d goes %d, and back %d", g, k, to, there, back)
				}
				sum += there
			}
			switch {
			case sum > 64:
				t.Fatalf("%v: from %d goes %d", g, k, sum)
			case sum == 64:
				all++
			case sum > 0:
				some++
			default:
				none++
			}
		}
	}
	if all == 0 || some == 0 || none == 0 {
		t.Fatalf("all light leaves %d times, some %d, none %d", all, some, none)
	}
}

// sidesRead is the numbers of each line of a text; it fails unless each is written as the document says.
func sidesRead(t *testing.T, text string) [][]int {
	t.Helper()
	lines := strings.SplitAfter(text, "\n")
	if lines[len(lines)-1] != "" {
		t.Fatalf("%q: no newline behind the last line", text)
	}
	var all [][]int
	for _, line := range lines[:len(lines)-1] {
		var numbers []int
		for _, word := range strings.Split(strings.TrimSuffix(line, "\n"), " ") {
			n, err := strconv.Atoi(word)
			if err != nil || strconv.Itoa(n) != word {
				t.Fatalf("%q: the number %q", text, word)
			}
			numbers = append(numbers, n)
		}
		all = append(all, numbers)
	}
	return all
}

func TestPromise44FourLines(t *testing.T) {
	d := &dice{44}
	for _, g := range picGrids(t) {
		many := len(handSights(g))
		pics := [][]int{mustPic(t, g), countUp(many), make([]int, many)}
		for i := range pics[2] {
			pics[2][i] = d.roll(2000001) - 1000000
		}
		for _, pic := range pics {
			lines := sidesRead(t, impl.PicText(g, pic))
			if len(lines) != 4 || !slices.Equal(slices.Concat(lines...), pic) {
				t.Fatalf("%v: the lines of %v are %v", g, pic, lines)
			}
			if len(lines[0]) != g.Wide || len(lines[1]) != rowsOf(g) || len(lines[2]) != g.Wide || len(lines[3]) != rowsOf(g) {
				t.Fatalf("%v: the sides of %v are %v", g, pic, lines)
			}
		}
		for other := range 2*many + 2 {
			if text := impl.PicText(g, countUp(other)); other != many && text != "" {
				t.Fatalf("%v: %d numbers have the text %q", g, other, text)
			}
		}
	}
}

func TestPromise45Together(t *testing.T) {
	several := 0
	for _, g := range picGrids(t) {
		pic := mustPic(t, g)
		sum, seen := make([]int, len(pic)), make([]int, len(pic))
		for _, lamp := range lampsOf(g) {
			for k, light := range mustPic(t, alone(g, lamp)) {
				sum[k] += light
				if light > 0 {
					seen[k]++
				}
			}
		}
		if !slices.Equal(sum, pic) {
			t.Fatalf("%v: %v, lamp by lamp %v", g, pic, sum)
		}
		if slices.Max(seen) > 1 {
			several++
		}
	}
	if several == 0 {
		t.Fatal("no sight sees two lamps")
	}
}

func TestPromise46SoManyTimesAsBright(t *testing.T) {
	bright := 0
	for _, g := range picGrids(t) {
		ones := mustPic(t, allLamps(g, 1))
		bright += slices.Max(ones)
		for light := 1; light <= 9; light++ {
			for k, got := range mustPic(t, allLamps(g, light)) {
				if got != light*ones[k] {
					t.Fatalf("%v: the sight %d is %d with lamps of 1, and %d with lamps of %d", g, k, ones[k], got, light)
				}
			}
		}
	}
	if bright == 0 {
		t.Fatal("no sight is bright")
	}
}
