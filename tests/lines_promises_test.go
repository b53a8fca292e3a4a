package tests

import (
	"slices"
	"strings"
	"testing"

	"loop.example/lucarne/impl"
)

// holdTold fails unless a text is told at least one line, each with a newline, and none empty.
func holdTold(t *testing.T, text string) {
	t.Helper()
	got := impl.LinesRun(text)
	if !strings.HasSuffix(got, "\n") || strings.HasPrefix(got, "\n") || strings.Contains(got, "\n\n") {
		t.Fatalf("%q is told %q", short(text), short(got))
	}
}

func TestPromise97AtLeastOneLine(t *testing.T) {
	for _, text := range slices.Concat(noWordLines(), noGridTexts()) {
		holdTold(t, text)
		holdTold(t, text+"\n")
		holdTold(t, text+"\n\n")
		holdTold(t, ".\n"+text)
		holdTold(t, ".\n\n"+text)
		holdTold(t, ".\n\n"+text+"\n")
		holdTold(t, "\n"+text+"\n")
	}
	d := &dice{97}
	for _, g := range linesGrids(t) {
		holdTold(t, handText(t, g))
		for _, many := range []int{0, 1, 5, 30} {
			holdTold(t, rolledText(t, d, g, many))
		}
	}
}

func TestPromise97OfAnyBytes(t *testing.T) {
	d := &dice{98}
	for _, signs := range []string{".\n", ".#\n", ".#/\\xz:9\n", "0 #\n", "backongridlook \n", "\x00\xff\n "} {
		for range 300 {
			var text []byte
			for range d.roll(700) {
				text = append(text, signs[d.roll(len(signs))])
			}
			holdTold(t, string(text))
			holdByHand(t, string(text))
			holdTold(t, ".\n\n"+string(text))
			holdByHand(t, ".\n\n"+string(text))
		}
	}
}

func TestPromise98GridAndEmptyLine(t *testing.T) {
	bright := 0
	for _, g := range slices.Concat(linesGrids(t), picGrids(t), allGrids(2, 1)) {
		text := handText(t, g)
		want := impl.PicText(g, impl.PicOf(g))
		holdLines(t, text+"\n", want)
		if by := handLook(g); want != by {
			t.Fatalf("%q: the picture %q, by hand %q", text, want, by)
		}
		// The empty line may be left out, if nothing comes behind it.
		holdLines(t, text, want)
		if strings.Trim(want, "0 \n") != "" {
			bright++
		}
	}
	if bright < 100 {
		t.Fatalf("only %d grids are bright somewhere", bright)
	}
}

func TestPromise98WhatIsNoGrid(t *testing.T) {
	for _, text := range noGridTexts() {
		if isGridText(text) {
			t.Fatalf("%q is a grid's", text)
		}
		holdLines(t, text, "no grid\n")
		// Whatever comes behind: it is not done, and not answered.
		if !strings.Contains("\n"+text, "\n\n") && (text == "" || strings.HasSuffix(text, "\n")) {
			holdLines(t, text+"\n", "no grid\n")
			holdLines(t, text+"\nback\ngrid\nlook\n0 #\n", "no grid\n")
			holdLines(t, text+"\n.\n\n", "no grid\n")
		}
	}
}

func TestPromise98SpoiltGrids(t *testing.T) {
	refused := 0
	for _, g := range linesGrids(t) {
		text := handText(t, g)
		for at := range len(text) {
			spoilt := []string{text[:at], text[at:], text[:at] + text[at+1:]}
			for _, sign := range []byte("\n 0aX9\xff") {
				one := string([]byte{sign})
				spoilt = append(spoilt, text[:at]+one+text[at:], text[:at]+one+text[at+1:])
			}
			for _, s := range spoilt {
				holdByHand(t, s)
				holdByHand(t, s+"\n")
				if impl.LinesRun(s+"\n") == "no grid\n" {
					refused++
				}
			}
		}
	}
	if refused < 1000 {
		t.Fatalf("only %d are no grids", refused)
	}
}

func TestPromise99WallAndBack(t *testing.T) {
	changed := 0
	for _, g := range linesGrids(t) {
		without := impl.LinesRun(under(t, g))
		for at := range g.Cells {
			wall := editLine(at, "#")
			holdLines(t, under(t, g, wall, "back"), "ok\nok\n"+without)
			if impl.LinesRun(under(t, g, wall)) != "ok\n"+without {
				changed++
			}
		}
	}
	if changed < 100 {
		t.Fatalf("only %d walls change a picture", changed)
	}
}

func TestPromise99AnyCellAndBack(t *testing.T) {
	for _, g := range slices.Concat(roundGrids(t), gridsOf(99, 1, ".#/\\xz:159")) {
		without := impl.LinesRun(under(t, g))
		for at := range g.Cells {
			for _, s := range signedCells() {
				put := editLine(at, string(rune(s.sign)))
				there := handLook(handPut(g, impl.Edit{At: at, Cell: s.cell}))
				holdLines(t, under(t, g, put), "ok\n"+there)
				holdLines(t, under(t, g, put, "back"), "ok\nok\n"+without)
				holdLines(t, under(t, g, put, "back", "on"), "ok\nok\nok\n"+there)
			}
		}
	}
}

// lastPic is the four lines at the end of an answer.
func lastPic(said string) string {
	lines := strings.SplitAfter(said, "\n")
	return strings.Join(lines[max(0, len(lines)-5):], "")
}

func TestPromise99AmidOtherLines(t *testing.T) {
	d := &dice{99}
	for _, g := range linesGrids(t) {
		for range 10 {
			text := rolledText(t, d, g, 12)
			if len(text) > 500 {
				continue
			}
			without := impl.LinesRun(text)
			got := impl.LinesRun(text + editLine(d.roll(len(g.Cells)), "#") + "\nback\n")
			if want := without[:len(without)-len(lastPic(without))] + "ok\nok\n" + lastPic(without); got != want {
				t.Fatalf("%q, and a wall, and back, is told %q, without %q", text, got, without)
			}
		}
	}
}

func TestPromise100TooLong(t *testing.T) {
	for _, g := range linesGrids(t) {
		text := under(t, g)
		for _, line := range []string{"on\n", "back\n", "0 #\n", "look\n", "\n", "q"} {
			long := text
			for len(long) <= linesMost {
				long += line
			}
			holdLines(t, long, "too long\n")
			// Up to 600 bytes it is not.
			most := long[:linesMost]
			if got := impl.LinesRun(most); got == "too long\n" || got != handLines(t, most) {
				t.Fatalf("%q is told %q", most, short(got))
			}
			holdLines(t, most+"\n", "too long\n")
			holdLines(t, most+"#", "too long\n")
		}
	}
}

func TestPromise100WhateverIsInIt(t *testing.T) {
	for _, sign := range []string{".", "\n", " ", "#", "q", "\x00", "\xff", "0"} {
		for _, many := range []int{601, 602, 700, 1000, 1201, 65536, 65537, 100000, 1 << 20} {
			holdLines(t, strings.Repeat(sign, many), "too long\n")
		}
		holdLines(t, strings.Repeat(sign, 600), "no grid\n")
	}
	// Bytes count, not letters.
	holdLines(t, ".\n\n"+strings.Repeat("é", 299), "too long\n")
	holdLines(t, ".\n\n"+strings.Repeat("é", 298), "0\n0\n0\n0\n")
	holdLines(t, ".\n\n"+strings.Repeat("漢", 199)+"\n", "too long\n")
	holdLines(t, ".\n\n"+strings.Repeat("漢", 198)+"\n", "no\n0\n0\n0\n0\n")
}

func TestPromise101NoWordNorEdit(t *testing.T) {
	for _, g := range slices.Concat(roundGrids(t), wholeGrids(), gridsOf(101, 1, ".#/\\xz:159")) {
		without := impl.LinesRun(under(t, g))
		for _, line := range slices.Concat(noWordLines(), wrongEditLines(g)) {
			holdLines(t, under(t, g, line), "no\n"+without)
		}
	}
}

func TestPromise101AmidOtherLines(t *testing.T) {
	d := &dice{101}
	wrong := noWordLines()
	for _, g := range linesGrids(t) {
		lines := []string{editLine(d.roll(len(g.Cells)), "#"), editLine(d.roll(len(g.Cells)), "x"), "back"}
		without := impl.LinesRun(under(t, g, lines...))
		for at := range len(lines) + 1 {
			for range 12 {
				with := slices.Insert(slices.Clone(lines), at, wrong[d.roll(len(wrong))])
				text := under(t, g, with...)
				// What could be undone, and done again, is so, too: the others are told as without it.
				holdLines(t, text, without[:3*at]+"no\n"+without[3*at:])
				holdByHand(t, text+"on\ngrid\nback\nback\ngrid\nback\n")
			}
		}
	}
}

func TestPromise102WallAndGrid(t *testing.T) {
	for _, g := range slices.Concat(linesGrids(t), allGrids(2, 1), allGrids(1, 2)) {
		x := handPut(g, edit(0, "#"))
		holdLines(t, under(t, g, "0 #", "grid"), "ok\n"+handText(t, x)+handLook(x))
		holdLines(t, under(t, g, "0 #"), "ok\n"+impl.PicText(x, impl.PicOf(x)))
	}
}

func TestPromise102AnyPlaceAndCell(t *testing.T) {
	for _, g := range slices.Concat(roundGrids(t), gridsOf(102, 1, ".#/\\xz:159")) {
		for at := range g.Cells {
			for _, s := range signedCells() {
				x := handPut(g, impl.Edit{At: at, Cell: s.cell})
				look := handLook(x)
				holdLines(t, under(t, g, editLine(at, string(rune(s.sign))), "grid", "look"), "ok\n"+handText(t, x)+look+look)
			}
		}
	}
}
