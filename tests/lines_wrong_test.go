package tests

import (
	"slices"
	"strings"
	"testing"

	"loop.example/lucarne/impl"
)

// noGridTexts is texts that have no grid ahead of their first empty line.
func noGridTexts() []string {
	texts := slices.DeleteFunc(wrongTexts(), func(text string) bool {
		head, _, found := strings.Cut(text, "\n\n")
		return found && isGridText(head+"\n")
	})
	return slices.Concat(texts, []string{
		"q", "q\n", "back\n", "on\n", "grid\n", "look\n", "0 #\n", "no grid\n", "\x00", "\xff\xff", "é",
		"x.\n:q\n", "x.\n:0\n", "x.\nX5\n", " x.\n:5\n", "x. \n:5\n", "x.\n :5\n", "x.\n:5\n ", "x.\n:5\n\x00", "x.\n:5\r\n",
		"\xffx.\n:5\n", "x.\n:\x805\n", ".....\n.....\n.....\n.....\n....0\n", "0....\n.....\n.....\n.....\n.....\n", ".....\n.....\n..é..\n.....\n.....\n",
	})
}

func TestOneSignThatIsNoCells(t *testing.T) {
	right := "x./\n:5#\n\\z9\n"
	for at, was := range []byte(right) {
		for sign := range 256 {
			text := right[:at] + string([]byte{byte(sign)}) + right[at+1:]
			holdByHand(t, text)
			holdByHand(t, text+"\n0 #\n")
			if was != '\n' && strings.IndexByte("./\\#xz:123456789\n", byte(sign)) < 0 {
				holdLines(t, text+"\n0 #\ngrid\n", "no grid\n")
			}
		}
	}
}

func TestEveryByteInAnEdit(t *testing.T) {
	g := mustRead(t, "x./\n:5#\n\\z9\n")
	for _, right := range []string{"0 #", "8 .", "08 7", "00 x"} {
		for at := range len(right) {
			for sign := range 256 {
				one := string([]byte{byte(sign)})
				for _, line := range []string{right[:at] + one + right[at+1:], right[:at] + one + right[at:]} {
					holdByHand(t, under(t, g, line, "grid"))
				}
			}
			holdByHand(t, under(t, g, right[:at]+right[at+1:], "grid"))
		}
	}
}

func TestEveryByteInAWord(t *testing.T) {
	ahead := []string{"0 #", "1 #", "back"}
	g := mustRead(t, "5.\n")
	for _, right := range []string{"back", "on", "grid", "look"} {
		for at := range len(right) + 1 {
			for sign := range 256 {
				one := string([]byte{byte(sign)})
				holdByHand(t, under(t, g, slices.Concat(ahead, []string{right[:at] + one + right[at:]})...))
				if at < len(right) {
					holdByHand(t, under(t, g, slices.Concat(ahead, []string{right[:at] + one + right[at+1:]})...))
				}
			}
		}
		for at := range len(right) {
			holdLines(t, under(t, g, right[:at]), "no\n"+handLook(g))
			holdLines(t, under(t, g, right[at+1:]), "no\n"+handLook(g))
		}
	}
}

func TestShortLines(t *testing.T) {
	// Each line of up to three bytes of those that count somewhere, and some that count nowhere.
	signs := " 019#.x/:-on\r\xff"
	lines := []string{""}
	for range 3 {
		for _, line := range slices.Clone(lines) {
			for _, sign := range []byte(signs) {
				lines = append(lines, line+string([]byte{sign}))
			}
		}
		slices.Sort(lines)
		lines = slices.Compact(lines)
	}
	g := mustRead(t, ".5\n")
	done := 0
	for _, line := range lines {
		text := under(t, g, line)
		holdByHand(t, text)
		if strings.HasPrefix(impl.LinesRun(text), "ok\n") {
			done++
		}
	}
	// Two places, and seven signs that are cells': 1, 9, #, ., x, / and :.
	if done != 14 {
		t.Fatalf("%d of %d are done", done, len(lines))
	}
}

func TestWrongLinesAreNoWordsOrEdits(t *testing.T) {
	for _, line := range noWordLines() {
		if strings.Contains(line, "\n") || handEditLine.MatchString(line) || slices.Contains([]string{"back", "on", "grid", "look"}, line) {
			t.Fatalf("%q", line)
		}
	}
}

func TestWrongLinesOneBehindTheOther(t *testing.T) {
	// Behind each that cannot be read the next one is still done.
	lines := noWordLines()
	for from := 0; from < len(lines); from += 10 {
		some := lines[from:min(from+10, len(lines))]
		text := under(t, mustRead(t, "5\n"), slices.Concat(some, []string{"0 9"}, some, []string{"back", "grid"})...)
		if len(text) > linesMost {
			t.Fatalf("%q is too long", text)
		}
		nos := strings.Repeat("no\n", len(some))
		holdLines(t, text, nos+"ok\n"+nos+"ok\n5\n"+four(320))
	}
}
