package tests

import (
	"regexp"
	"slices"
	"strconv"
	"strings"
	"testing"

	"loop.example/lucarne/impl"
)

// linesMost is how many bytes a text may have, as the document has it.
const linesMost = 600

// handBook is all grids that can be gone to and fro, the eldest first, and which one is there now: what an album does, in another way.
type handBook struct {
	grids []impl.Grid
	at    int
}

func (b *handBook) now() impl.Grid {
	return b.grids[b.at]
}

// put does an edit, and forgets what was undone, and the eldest, if there are too many; false, if there is no such place.
func (b *handBook) put(e impl.Edit) bool {
	if e.At >= len(b.now().Cells) {
		return false
	}
	b.grids = append(slices.Clone(b.grids[:b.at+1]), handPut(b.now(), e))
	if len(b.grids) > albumMost+1 {
		b.grids = b.grids[1:]
	}
	b.at = len(b.grids) - 1
	return true
}

// step goes to the next grid, or to the one ahead; false, if there is none.
func (b *handBook) step(by int) bool {
	to := b.at + by
	if to < 0 || to >= len(b.grids) {
		return false
	}
	b.at = to
	return true
}

// handYes is what is said of what was done, or could not be.
func handYes(ok bool) string {
	if ok {
		return "ok\n"
	}
	return "no\n"
}

// handEditLine is what a line must look like to be an edit.
var handEditLine = regexp.MustCompile(`\A([0-9]{1,2}) ([.#/\\xz:1-9])\z`)

// handHead is what a text must look like to have an empty line: full lines, it, and anything behind.
var handHead = regexp.MustCompile(`(?s)\A((?:[^\n]+\n)*)\n(.*)\z`)

// handLook is the text of a grid's picture, without the program's help.
func handLook(g impl.Grid) string {
	return handPicText(g, handPic(g))
}

// handLine is what is said of a line, without the program's help.
func (b *handBook) handLine(t *testing.T, line string) string {
	t.Helper()
	switch line {
	case "back":
		return handYes(b.step(-1))
	case "on":
		return handYes(b.step(1))
	case "grid":
		return handText(t, b.now())
	case "look":
		return handLook(b.now())
	}
	parts := handEditLine.FindStringSubmatch(line)
	if parts == nil {
		return "no\n"
	}
	at, err := strconv.Atoi(parts[1])
	if err != nil {
		t.Fatal(err)
	}
	return handYes(b.put(edit(at, parts[2])))
}

// handGrid is the grid of a text, without the program's help; false, if it is none's.
func handGrid(text string) (impl.Grid, bool) {
	if !isGridText(text) {
		return impl.Grid{}, false
	}
	g := impl.Grid{Wide: strings.Index(text, "\n")}
	for _, sign := range strings.ReplaceAll(text, "\n", "") {
		g.Cells = append(g.Cells, cellsOf(string(sign))[0])
	}
	return g, true
}

// handLines is what is said of a text, without the program's help.
func handLines(t *testing.T, text string) string {
	t.Helper()
	if len(text) > linesMost {
		return "too long\n"
	}
	head, behind := text, ""
	if parts := handHead.FindStringSubmatch(text); parts != nil {
		head, behind = parts[1], parts[2]
	}
	g, ok := handGrid(head)
	if !ok {
		return "no grid\n"
	}
	b := &handBook{grids: []impl.Grid{g}}
	said := ""
	lines := strings.Split(behind, "\n")
	for _, line := range lines[:len(lines)-1] {
		said += b.handLine(t, line)
	}
	return said + handLook(b.now())
}

// holdLines fails unless this is said of a text.
func holdLines(t *testing.T, text, want string) {
	t.Helper()
	if got := impl.LinesRun(text); got != want {
		t.Fatalf("%q is told %q, not %q", short(text), short(got), short(want))
	}
}

// holdByHand fails unless of a text is said what is said of it without the program's help.
func holdByHand(t *testing.T, text string) {
	t.Helper()
	holdLines(t, text, handLines(t, text))
}

// linesGrids is those of one cell, those in which light goes round, those full of one kind, and some of each size with each kind of cell.
func linesGrids(t *testing.T) []impl.Grid {
	return slices.Concat(allGrids(1, 1), roundGrids(t), wholeGrids(), gridsOf(97, 2, ".#/\\xz:159"))
}

// under is the text of a grid, an empty line, and these lines, a newline behind each.
func under(t *testing.T, g impl.Grid, lines ...string) string {
	t.Helper()
	text := handText(t, g) + "\n"
	for _, line := range lines {
		text += line + "\n"
	}
	return text
}

// editLine is the line that puts the cell of a sign to a place.
func editLine(at int, sign string) string {
	return strconv.Itoa(at) + " " + sign
}

// noWordLines is lines that are no word, and cannot be read as an edit in whatever grid.
func noWordLines() []string {
	return []string{
		"", " ", "  ", "q", "?", "ok", "no", "no grid", "too long", "quit", "b", "bac", "ack", "backk", "backback", "o", "n", "onn", "gri", "grids", "loo", "looks",
		" back", "back ", "ba ck", "\tback", "back\t", "back\r", "back\x00", "Back", "BACK", "bacK", " on", "on ", "o n", "On", "ON", "on\r",
		" grid", "grid ", "gr id", "Grid", "GRID", "grid\r", " look", "look ", "lo ok", "Look", "LOOK", "look\r", "back on", "on back", "back 0", "0 back", "on 0 #", "grid 0", "0 grid", "0 look",
		"0", "00", "0#", "00#", "0.", "#", ".", "# 0", "#0", "0 ", "00 ", " 0", "  0", " #", "  #", "0  #", "0   #", "00  #", " 0 #", "  0 #", "0 # ", "0 #  ", "0 ##", "0 #.", "0 #0", "0 # #", "0 #\r", "0 #\x00", "0 #\t",
		"0\t#", "0\x00#", "0-#", "0,#", "0_#", "0\u00a0#", "0\v#", "0\r#", "0: #", "0. #", "0, #", "0_ #",
		"000 #", "001 #", "010 #", "100 #", "0000 #", "00000000000000000000000000000001 #", "18446744073709551616 #", "256 #", "4294967296 #",
		"-0 #", "-1 #", "+0 #", "+1 #", "-00 #", "- #", "+ #", "0x0 #", "0x #", "x #", "x0 #", "a #", "0a #", "a0 #", ": #", "/ #", "0/ #", "0: .", ":0 #", "/0 #", "1e #", "e1 #", "0.0 #", "1_ #", "٣ #", "0\xb2 #", "² #", "\xff #", "0\xff #",
		"0 0", "0 a", "0 X", "0 Z", "0 -", "0 ;", "0 |", "0 ,", "0 10", "0 12", "0 99", "0 \\\\", "0 //", "0 xx", "0 ..", "0 =", "0 é", "0 \xff", "0 \x89", "0 \x00", "0 \x80", "0 \xb1", "0 ١", "0 ：", "0 ", "0 \t", "0 \r", "0 \"", "0 '#'", "0 \x01", "0 \x09", "0 \x7f",
		"\x00", "\xff", "\xff\xfe", "\x80\x80\x80", "é", "\ufeff0 #", "\ufeffback", "b\x00ck", "b\xe1ck", "\u200bon", "0 #\xc0", "0 \xa3",
	}
}

// wrongEditLines is lines that look like an edit of a grid, but there is no such place.
func wrongEditLines(g impl.Grid) []string {
	var lines []string
	for at := len(g.Cells); at < 100; at++ {
		for _, sign := range []string{".", "#", "9"} {
			lines = append(lines, editLine(at, sign))
		}
	}
	return lines
}

// rolledLine is a line of a grid: a word, an edit that can be, or one that is wrong.
func rolledLine(d *dice, g impl.Grid) string {
	wrong := noWordLines()
	switch roll := d.roll(20); {
	case roll < 8:
		at := strconv.Itoa(d.roll(len(g.Cells)))
		if len(at) < 2 && d.roll(4) == 0 {
			at = "0" + at
		}
		return at + " " + string(".#/\\xz:123456789"[d.roll(16)])
	case roll < 12:
		return "back"
	case roll < 15:
		return "on"
	case roll < 16:
		return "grid"
	case roll < 17:
		return "look"
	case roll < 18:
		return editLine(d.roll(100), "#")
	}
	return wrong[d.roll(len(wrong))]
}

// rolledText is a text of a grid with so many lines, no longer than a text may be.
func rolledText(t *testing.T, d *dice, g impl.Grid, many int) string {
	t.Helper()
	text := under(t, g)
	for range many {
		line := rolledLine(d, g) + "\n"
		if len(text)+len(line) > linesMost {
			break
		}
		text += line
	}
	return text
}
