package tests

import (
	"runtime"
	"slices"
	"strconv"
	"strings"
	"sync"
	"testing"
	"time"

	"loop.example/lucarne/impl"
)

// four is the picture of one cell that is as bright from each side.
func four(light int) string {
	return strings.Repeat(strconv.Itoa(light)+"\n", 4)
}

func TestLinesByHand(t *testing.T) {
	grid, look := "x.\n:5\n", "0 320\n0 320\n320 0\n160 0\n"
	wall, dim := "x#\n:5\n", "0 0\n0 320\n320 0\n160 0\n"
	for _, x := range []struct{ lines, want string }{
		{"", look},
		{"look\n", look + look},
		{"grid\n", grid + look},
		{"grid\nlook\ngrid\n", grid + look + grid + look},
		{"back\n", "no\n" + look},
		{"on\n", "no\n" + look},
		{"1 #\n", "ok\n" + dim},
		{"1 #\nlook\n", "ok\n" + dim + dim},
		{"1 #\ngrid\nback\ngrid\non\ngrid\n", "ok\n" + wall + "ok\n" + grid + "ok\n" + wall + dim},
		{"1 #\non\nback\nback\non\non\n", "ok\nno\nok\nno\nok\nno\n" + dim},
		{"3 .\nback\nlook\n9 .\ngrid\n", "ok\nok\n" + look + "no\n" + grid + look},
		{"1 #\n0 9\nback\nlook\n", "ok\nok\nok\n" + dim + dim},
		// Another edit, and what was undone cannot be done again.
		{"1 #\n0 9\nback\n2 /\non\ngrid\nback\nback\nback\n", "ok\nok\nok\nok\nno\nx#\n/5\nok\nok\nno\n" + look},
		// What cannot be leaves what can be undone, and done again.
		{"1 #\nback\n4 #\nq\nback\non\ngrid\n", "ok\nok\nno\nno\nno\nok\n" + wall + dim},
	} {
		holdLines(t, grid+"\n"+x.lines, x.want)
		holdByHand(t, grid+"\n"+x.lines)
	}
}

func TestEachKindOfCellInLines(t *testing.T) {
	// Beside a lamp, seen from the left: through what lies there, or not.
	for sign, light := range map[string]int{".": 192, "#": 0, "/": 0, "\\": 0, "x": 96, "z": 96, ":": 96, "1": 64, "9": 576} {
		got := impl.LinesRun(".3\n\n0 " + sign + "\ngrid\n")
		if !strings.HasPrefix(got, "ok\n"+sign+"3\n") || !strings.HasSuffix(got, "\n"+strconv.Itoa(light)+"\n") {
			t.Errorf("%s is told %q", sign, got)
		}
		holdByHand(t, sign+"3\n\n0 .\nback\ngrid\n")
	}
}

func TestLinesOfOneCell(t *testing.T) {
	holdLines(t, ".\n", four(0))
	holdLines(t, "5\n", four(320))
	holdLines(t, "5\n\n", four(320))
	holdLines(t, "5\n\n0 .\ngrid\n", "ok\n.\n"+four(0))
	for _, from := range signedCells() {
		for _, to := range signedCells() {
			first, then := string(rune(from.sign)), string(rune(to.sign))
			was, is := four(64*from.cell.Light), four(64*to.cell.Light)
			holdLines(t, first+"\n\nlook\n0 "+then+"\ngrid\nback\ngrid\nlook\non\ngrid\n", was+"ok\n"+then+"\nok\n"+first+"\n"+was+"ok\n"+then+"\n"+is)
		}
	}
}

func TestLinesOfTheGreatestGrid(t *testing.T) {
	grid := strings.Repeat("99999\n", 5)
	look := strings.Repeat("576 576 576 576 576\n", 4)
	holdLines(t, grid, look)
	holdLines(t, grid+"\n", look)
	holdLines(t, grid+"\n24 .\ngrid\nback\n25 .\n", "ok\n"+strings.Repeat("99999\n", 4)+"9999.\nok\nno\n"+look)
	// As much as can be asked: 113 times 80 bytes, and once more.
	holdLines(t, grid+"\n"+strings.Repeat("look\n", 113), strings.Repeat(look, 114))
	holdLines(t, grid+"\n"+strings.Repeat("look\n", 114), "too long\n")
	holdLines(t, grid+"99999\n", "no grid\n")
	holdLines(t, grid+"99999\n\n", "no grid\n")
	holdLines(t, strings.Repeat("999999\n", 5)+"\n", "no grid\n")
}

func TestTheLongestText(t *testing.T) {
	for _, x := range []struct{ text, want string }{
		{".\n\n" + strings.Repeat("on\n", 199), strings.Repeat("no\n", 199) + four(0)},
		{".\n\n" + strings.Repeat("on\n", 198) + "0 5", strings.Repeat("no\n", 198) + four(0)},
		{".\n\n" + strings.Repeat("\n", 597), strings.Repeat("no\n", 597) + four(0)},
		{".\n\n" + strings.Repeat("q", 597), four(0)},
		{".\n\n" + strings.Repeat("q", 596) + "\n", "no\n" + four(0)},
		{".\n\nq" + strings.Repeat("0 5\n", 149), "no\n" + strings.Repeat("ok\n", 148) + four(320)},
		{strings.Repeat(".", 600), "no grid\n"},
		{strings.Repeat("\n", 600), "no grid\n"},
	} {
		if len(x.text) != linesMost {
			t.Fatalf("%q has %d bytes", x.text, len(x.text))
		}
		holdLines(t, x.text, x.want)
		holdLines(t, x.text[:599]+"\n"+x.text[599:], "too long\n")
		holdLines(t, x.text+"\n", "too long\n")
		holdLines(t, x.text+" ", "too long\n")
		holdLines(t, x.text+"\x00", "too long\n")
	}
}

func TestAnEmptyText(t *testing.T) {
	holdLines(t, "", "no grid\n")
}

func TestAnEmptyLineFirst(t *testing.T) {
	for _, text := range []string{"\n", "\n\n", "\n\n\n", "\n5\n", "\n5\n\n", "\n\n5\n\n", "\n5\n\n0 .\n", "\nlook\n", "\n5"} {
		holdLines(t, text, "no grid\n")
	}
}

func TestAnEmptyLineAmidTheGrid(t *testing.T) {
	// The grid ends there: what would be its other rows is lines that are none.
	holdLines(t, "5\n\n5\n", "no\n"+four(320))
	holdLines(t, "5\n\n5\n\n", "no\nno\n"+four(320))
	holdLines(t, "..\n\n55\n0 5\n", "no\nok\n320 0\n320\n0 320\n320\n")
}

func TestEmptyLinesBehindTheGrid(t *testing.T) {
	holdLines(t, "5\n\n\n", "no\n"+four(320))
	holdLines(t, "5\n\n\n\n", "no\nno\n"+four(320))
	holdLines(t, "5\n\n0 .\n\nback\n", "ok\nno\nok\n"+four(320))
	holdLines(t, "5\n\n\n0 .\n", "no\nok\n"+four(0))
	holdLines(t, "5\n\n0 .\n\n", "ok\nno\n"+four(0))
	holdLines(t, "5\n\ngrid\n\n\ngrid\n", "5\nno\nno\n5\n"+four(320))
}

func TestWhatIsNoEmptyLine(t *testing.T) {
	// With a blank, or a carriage return, it is one of the grid's rows, and no cell's sign.
	for _, text := range []string{"5\n \n", "5\n\r\n", "5\r\n\r\n", "5\n\t\n", "5\n\x00\n", "5\n \nlook\n", "5\n\u00a0\n", "5\n\x85\n", "5\n\v\n\f\n", "5\r\r", "5\u2028\u2028", "5\n\\n\n"} {
		holdLines(t, text, "no grid\n")
	}
	// But the first that is empty counts, whatever came ahead of it.
	holdLines(t, "5\n \n\nlook\n", "no grid\n")
}

func TestAGridWithoutAnEmptyLine(t *testing.T) {
	holdLines(t, "x.\n:5\n", "0 320\n0 320\n320 0\n160 0\n")
	// Then all of the text is the grid's, also what would be a line, and what has no newline.
	for _, text := range []string{"5\n0 .\n", "5\nlook\n", "5\nback\n", "5\nq", "5\n5", "5", "x.\n:5", "x.\n:", "5\n0 .", "5\n ", "..\non\n"} {
		holdLines(t, text, "no grid\n")
	}
	// A line of an edit has a blank, so that none is a row; of words all signs would have to be cells'.
	holdLines(t, "5\n1\n", "320\n320 64\n64\n64 320\n")
}

func TestTheLastLine(t *testing.T) {
	holdLines(t, "5\n\n0 .", four(320))
	holdLines(t, "5\n\n0 .\n", "ok\n"+four(0))
	holdLines(t, "5\n\n0 .\nback", "ok\n"+four(0))
	holdLines(t, "5\n\n0 .\nback\n", "ok\nok\n"+four(320))
	for _, tail := range []string{"look", "grid", "back", "on", "q", "0 #", " ", "\x00", "\r", strings.Repeat("x", 500)} {
		holdLines(t, "5\n\n"+tail, four(320))
		holdLines(t, "5\n\n0 9\n"+tail, "ok\n"+four(576))
		holdLines(t, "5\n\n0 9\n\n"+tail, "ok\nno\n"+four(576))
	}
}

func TestPlacesInLines(t *testing.T) {
	free := mustRead(t, strings.Repeat(".....\n", 5))
	for at := range 25 {
		x := handPut(free, edit(at, "7"))
		want := "ok\n" + handText(t, x) + handLook(x)
		holdLines(t, under(t, free, strconv.Itoa(at)+" 7", "grid"), want)
		if at < 10 {
			// A place of one figure may stand in two.
			holdLines(t, under(t, free, "0"+strconv.Itoa(at)+" 7", "grid"), want)
		}
		three := strconv.Itoa(1000 + at)[1:]
		holdLines(t, under(t, free, three+" 7", "grid"), "no\n"+handText(t, free)+handLook(free))
	}
	for at := 25; at < 100; at++ {
		holdLines(t, under(t, free, strconv.Itoa(at)+" 7"), "no\n"+handLook(free))
	}
}

func TestTheLastPlaceAndOnePast(t *testing.T) {
	for wide := 1; wide <= 5; wide++ {
		for rows := 1; rows <= 5; rows++ {
			g := impl.Grid{Wide: wide, Cells: freeCells(wide * rows)}
			last := handPut(g, edit(wide*rows-1, "4"))
			holdLines(t, under(t, g, editLine(wide*rows-1, "4"), "grid"), "ok\n"+handText(t, last)+handLook(last))
			holdLines(t, under(t, g, editLine(wide*rows, "4"), "grid"), "no\n"+handText(t, g)+handLook(g))
		}
	}
}

func TestNothingToGoBackOrOnTo(t *testing.T) {
	holdLines(t, "5\n\nback\non\nback\non\n", "no\nno\nno\nno\n"+four(320))
	holdLines(t, "5\n\n0 .\non\nback\nback\non\non\n", "ok\nno\nok\nno\nok\nno\n"+four(0))
	// An edit that cannot be is nothing to go back to.
	holdLines(t, "5\n\n1 .\nback\n", "no\nno\n"+four(320))
	// One that puts what is there already is.
	holdLines(t, "5\n\n0 5\nback\nback\non\n", "ok\nok\nno\nok\n"+four(320))
}

func TestMoreEditsThanAnAlbumKeeps(t *testing.T) {
	signs := "123456789#/xz:"
	for many := 1; many <= len(signs); many++ {
		var lines []string
		for _, sign := range signs[:many] {
			lines = append(lines, editLine(0, string(sign)))
		}
		kept := min(many, albumMost)
		lines = slices.Concat(lines, slices.Repeat([]string{"back"}, many+1), []string{"grid"}, slices.Repeat([]string{"on"}, many+1), []string{"grid"})
		// So many are kept: as many can be undone, and done again, and no more.
		undone := strings.Repeat("ok\n", kept) + strings.Repeat("no\n", many+1-kept)
		first := ("." + signs)[many-kept]
		light := 0
		if many <= 9 {
			light = 64 * many
		}
		want := strings.Repeat("ok\n", many) + undone + string(first) + "\n" + undone + signs[many-1:many] + "\n" + four(light)
		holdLines(t, ".\n\n"+strings.Join(lines, "\n")+"\n", want)
	}
}

func TestRolledLines(t *testing.T) {
	d := &dice{103}
	for _, g := range linesGrids(t) {
		for range 25 {
			holdByHand(t, rolledText(t, d, g, 1+d.roll(60)))
		}
	}
}

func TestLinesCutShort(t *testing.T) {
	d := &dice{104}
	for _, g := range slices.Concat(roundGrids(t)[:3], gridsOf(104, 1, ".#/\\xz:159")) {
		text := rolledText(t, d, g, 12)
		for at := range len(text) + 1 {
			holdByHand(t, text[:at])
			holdByHand(t, text[at:])
		}
	}
}

// twiceTexts is texts of all kinds, and what is said of each.
func twiceTexts(t *testing.T) map[string]string {
	t.Helper()
	texts := map[string]string{}
	d := &dice{105}
	for _, g := range linesGrids(t) {
		text := rolledText(t, d, g, 20)
		texts[text] = handLines(t, text)
	}
	for _, text := range []string{"", "q", "5", strings.Repeat("5\n", 301), "5\n\n\n", "5\n\n\xff\n"} {
		texts[text] = handLines(t, text)
	}
	return texts
}

func TestTheSameTextTwice(t *testing.T) {
	texts := twiceTexts(t)
	for range 3 {
		// Each is asked behind others, as maps are gone through in any order.
		for text, want := range texts {
			holdLines(t, text, want)
			holdLines(t, text, want)
		}
	}
}

func TestTextsAtTheSameTime(t *testing.T) {
	ahead := runtime.NumGoroutine()
	texts := twiceTexts(t)
	var all sync.WaitGroup
	for range 8 {
		all.Go(func() {
			for text, want := range texts {
				if got := impl.LinesRun(text); got != want {
					t.Errorf("%q is told %q, not %q", text, short(got), short(want))
				}
			}
		})
	}
	all.Wait()
	// Goroutines of the test itself may take a while to be gone.
	for range 100 {
		if runtime.NumGoroutine() <= ahead {
			return
		}
		time.Sleep(10 * time.Millisecond)
	}
	t.Errorf("%d goroutines, ahead %d", runtime.NumGoroutine(), ahead)
}
