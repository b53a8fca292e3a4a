package tests

import (
	"slices"
	"strconv"
	"strings"
	"testing"

	"loop.example/lucarne/impl"
)

// How many words may be under way, how many events may be played, and how many calm rounds there may be, as the document has them.
const (
	netMost  = 10
	playMost = 60
	calmMost = 20
)

func sameWorld(a, b impl.World) bool {
	return sameKeeper(a.Keeper, b.Keeper) && slices.EqualFunc(a.Painters, b.Painters, samePainter) && slices.EqualFunc(a.Nets, b.Nets, sameWord)
}

func isNoWorld(w impl.World) bool {
	return sameWorld(w, impl.World{})
}

// copyWorld is a world that shares nothing with this one.
func copyWorld(w impl.World) impl.World {
	x := impl.World{Keeper: copyKeeper(w.Keeper)}
	for _, p := range w.Painters {
		x.Painters = append(x.Painters, copyPainter(p))
	}
	for _, word := range w.Nets {
		x.Nets = append(x.Nets, copyWord(word))
	}
	return x
}

// Events, as the document numbers them.

func editEvent(e impl.Edit) impl.Event { return impl.Event{Kind: 1, Edit: e} }
func tells(to int) impl.Event          { return impl.Event{Kind: 2, A: to} }
func paints(id int) impl.Event         { return impl.Event{Kind: 3, A: id} }
func brings(at int) impl.Event         { return impl.Event{Kind: 4, A: at} }
func loses(at int) impl.Event          { return impl.Event{Kind: 5, A: at} }
func doubles(at int) impl.Event        { return impl.Event{Kind: 6, A: at} }
func falls(id int) impl.Event          { return impl.Event{Kind: 7, A: id} }
func rises(id int) impl.Event          { return impl.Event{Kind: 8, A: id} }

// handNew is a world at the beginning, without the program's help.
func handNew(g impl.Grid, many int) impl.World {
	w := impl.World{Keeper: handKeeper(g, nil, slices.Repeat([]int{-1}, many), nil)}
	for range many {
		w.Painters = append(w.Painters, empty())
	}
	return w
}

// handSend lets a word go under way, if there is room.
func handSend(w *impl.World, word impl.Word) {
	if len(w.Nets) < netMost {
		w.Nets = append(w.Nets, copyWord(word))
	}
}

// handTake takes a word out of those under way.
func handTake(w *impl.World, at int) impl.Word {
	word := w.Nets[at]
	w.Nets = slices.Concat(w.Nets[:at], w.Nets[at+1:])
	return word
}

// handHappen is an ok world behind an event, without the program's help.
func handHappen(w impl.World, e impl.Event) impl.World {
	x := copyWorld(w)
	many := len(x.Painters)
	isPainter, isWord := e.A >= 1 && e.A <= many, e.A >= 0 && e.A < len(x.Nets)
	switch {
	case e.Kind == 1 && len(x.Keeper.Edits) < verMost && handCan(x.Keeper.First, e.Edit):
		x.Keeper.Edits = append(x.Keeper.Edits, e.Edit)
	case e.Kind == 2 && isPainter:
		handSend(&x, handKeepTell(x.Keeper, e.A))
	case e.Kind == 3 && isPainter && x.Painters[e.A-1].Up:
		handSend(&x, handTell(x.Painters[e.A-1], e.A, many))
	case e.Kind == 4 && isWord:
		word := handTake(&x, e.A)
		if word.To == 0 {
			x.Keeper = handKeepHear(x.Keeper, word)
		} else {
			x.Painters[word.To-1] = handHear(x.Painters[word.To-1], word)
		}
	case e.Kind == 5 && isWord:
		handTake(&x, e.A)
	case e.Kind == 6 && isWord:
		handSend(&x, x.Nets[e.A])
	case e.Kind == 7 && isPainter:
		x.Painters[e.A-1] = impl.Painter{}
	case e.Kind == 8 && isPainter:
		x.Painters[e.A-1].Up = true
	}
	return x
}

// handPlay is an ok world behind events, without the program's help.
func handPlay(w impl.World, events ...impl.Event) impl.World {
	for _, e := range events {
		w = handHappen(w, e)
	}
	return w
}

// handBringAll is an ok world when all words are brought, without the program's help.
func handBringAll(w impl.World) impl.World {
	for len(w.Nets) > 0 {
		w = handHappen(w, brings(0))
	}
	return w
}

// handRound is an ok world behind a calm round, without the program's help.
func handRound(w impl.World) impl.World {
	w = handBringAll(w)
	for i := range w.Painters {
		w = handPlay(w, rises(i+1), paints(i+1))
	}
	w = handBringAll(w)
	for i := range w.Painters {
		w = handHappen(w, tells(i+1))
	}
	return handBringAll(w)
}

// mustWorld is the world of a grid at the beginning, which must be ok.
func mustWorld(t *testing.T, g impl.Grid, many int) impl.World {
	t.Helper()
	w, ok := impl.WorldNew(g, many)
	if !ok || !impl.WorldOk(w) {
		t.Fatalf("WorldNew(%v, %d) is %v, %v", g, many, w, ok)
	}
	return w
}

// mustHappen is a world behind events, one behind the other, which must be ok at each moment.
func mustHappen(t *testing.T, w impl.World, events ...impl.Event) impl.World {
	t.Helper()
	for _, e := range events {
		x := impl.WorldDo(w, e)
		if !impl.WorldOk(x) {
			t.Fatalf("%s: behind %v it is %s", worldText(w), e, short(x))
		}
		w = x
	}
	return w
}

// mustPlay is what WorldPlay answers, which must be ok.
func mustPlay(t *testing.T, g impl.Grid, many int, events []impl.Event) impl.World {
	t.Helper()
	w, ok := impl.WorldPlay(g, many, events)
	if !ok || !impl.WorldOk(w) {
		t.Fatalf("%v, %d painters: behind %v it is %s, %v", g, many, events, short(w), ok)
	}
	return w
}

// mustCalm is a world behind so many calm rounds, which must be ok.
func mustCalm(t *testing.T, w impl.World, rounds int) impl.World {
	t.Helper()
	x := impl.WorldCalm(w, rounds)
	if !impl.WorldOk(x) {
		t.Fatalf("%s: behind %d calm rounds it is %s", worldText(w), rounds, short(x))
	}
	return x
}

// holdWorldStays fails unless a world stays as it is by an event.
func holdWorldStays(t *testing.T, why string, w impl.World, e impl.Event) {
	t.Helper()
	if x := impl.WorldDo(w, e); !sameWorld(x, w) {
		t.Fatalf("%s: %s: behind %v it is %s", why, worldText(w), e, worldText(x))
	}
}

// holdNoWorld fails unless a world is not ok, whatever happens in it.
func holdNoWorld(t *testing.T, why string, w impl.World) {
	t.Helper()
	if impl.WorldOk(w) {
		t.Fatalf("%s: ok: %s", why, short(w))
	}
	for kind := range 10 {
		for _, a := range []int{0, 1, len(w.Nets) - 1} {
			if x := impl.WorldDo(w, impl.Event{Kind: kind, A: a}); !isNoWorld(x) {
				t.Fatalf("%s: %s: behind the event %d of %d it is %s", why, short(w), kind, a, short(x))
			}
		}
	}
	for _, rounds := range []int{-1, 0, 1, calmMost, calmMost + 1} {
		if x := impl.WorldCalm(w, rounds); !isNoWorld(x) {
			t.Fatalf("%s: %s: behind %d calm rounds it is %s", why, short(w), rounds, short(x))
		}
	}
}

// verText is a version; a stroke, if there is none.
func verText(has bool, ver int) string {
	if !has {
		return "-"
	}
	return strconv.Itoa(ver)
}

// wordText is a word: w whole, e edit, p part, the painter to, or from, whom it is, and the version; or ? and the painter, if it wants the whole.
func wordText(w impl.Word) string {
	switch w.Kind {
	case 1:
		return "w" + strconv.Itoa(w.To) + ":" + strconv.Itoa(w.Ver)
	case 2:
		return "e" + strconv.Itoa(w.To) + ":" + strconv.Itoa(w.Ver)
	case 3:
		return "p" + strconv.Itoa(w.From) + ":" + strconv.Itoa(w.Ver)
	case 4:
		return "?" + strconv.Itoa(w.From)
	}
	return "!"
}

// worldText is the versions of which painters told, which were shown, and which painters have (+: up, with nothing; -: down), and the words under way.
func worldText(w impl.World) string {
	var told, shown, has, nets []string
	for _, p := range w.Keeper.Parts {
		told = append(told, verText(p.Has, p.Ver))
	}
	for _, s := range w.Keeper.Shown {
		shown = append(shown, strconv.Itoa(s.Ver))
	}
	for _, p := range w.Painters {
		if p.Up && !p.Has {
			has = append(has, "+")
		} else {
			has = append(has, verText(p.Has, p.Ver))
		}
	}
	for _, word := range w.Nets {
		nets = append(nets, wordText(word))
	}
	parts := []string{strings.Join(told, " "), strings.Join(shown, " "), strings.Join(has, " "), strings.Join(nets, " ")}
	return strings.Join(parts, " | ")
}

// readVer is the version of a text; -1, if it is a stroke.
func readVer(t *testing.T, text string) int {
	t.Helper()
	if text == "-" {
		return -1
	}
	ver, err := strconv.Atoi(text)
	if err != nil {
		t.Fatalf("%q is no version", text)
	}
	return ver
}

// readVers is the versions of a text.
func readVers(t *testing.T, text string) []int {
	t.Helper()
	var vers []int
	for _, word := range strings.Fields(text) {
		vers = append(vers, readVer(t, word))
	}
	return vers
}

// readWord is the true word of a text in a keeper, without the program's help.
func readWord(t *testing.T, k impl.Keeper, text string) impl.Word {
	t.Helper()
	id, ver := int(text[1]-'0'), 0
	if text[0] != '?' {
		ver = readVer(t, text[3:])
	}
	switch text[0] {
	case 'w':
		return impl.Word{Kind: 1, To: id, Ver: ver, Grid: handGridOf(k, ver)}
	case 'e':
		return impl.Word{Kind: 2, To: id, Ver: ver, Edit: k.Edits[ver-1]}
	case 'p':
		return truePart(k, id, ver)
	case '?':
		return wantWord(id)
	}
	t.Fatalf("%q is no word", text)
	return impl.Word{}
}

// readWorld is the world of a text, of a first grid, and edits, without the program's help: all in it is true.
func readWorld(t *testing.T, first impl.Grid, edits []impl.Edit, text string) impl.World {
	t.Helper()
	parts := strings.Split(text, "|")
	if len(parts) != 4 {
		t.Fatalf("%q is no world", text)
	}
	w := impl.World{Keeper: handKeeper(first, edits, readVers(t, parts[0]), readVers(t, parts[1]))}
	for _, has := range strings.Fields(parts[2]) {
		switch has {
		case "-":
			w.Painters = append(w.Painters, impl.Painter{})
		case "+":
			w.Painters = append(w.Painters, empty())
		default:
			ver := readVer(t, has)
			w.Painters = append(w.Painters, handPainter(ver, handGridOf(w.Keeper, ver)))
		}
	}
	for _, word := range strings.Fields(parts[3]) {
		w.Nets = append(w.Nets, readWord(t, w.Keeper, word))
	}
	return w
}

// mustReadWorld is the world of a text, which must be ok.
func mustReadWorld(t *testing.T, first impl.Grid, edits []impl.Edit, text string) impl.World {
	t.Helper()
	w := readWorld(t, first, edits, text)
	if !impl.WorldOk(w) {
		t.Fatalf("%q is not ok: %v", text, w)
	}
	return w
}

// holdWorld fails unless a world is that of a text, with all in it, and is ok.
func holdWorld(t *testing.T, why string, w impl.World, first impl.Grid, edits []impl.Edit, text string) {
	t.Helper()
	if got := worldText(w); got != text {
		t.Fatalf("%s: the world is %q, not %q", why, got, text)
	}
	if want := readWorld(t, first, edits, text); !sameWorld(w, want) {
		t.Fatalf("%s: the world %q is %v, not %v", why, text, w, want)
	}
	if !impl.WorldOk(w) {
		t.Fatalf("%s: the world %q is not ok: %v", why, text, w)
	}
}

// worldGrids is some of each kind, and some of each size.
func worldGrids(t *testing.T) []impl.Grid {
	return slices.Concat(allGrids(1, 1)[:8], roundGrids(t)[:8], gridsOf(82, 1, ".#/\\xz:159"))
}

// rolledNumber is a number from the first to the last; now and then one that there is not.
func rolledNumber(d *dice, first, last int) int {
	if d.roll(24) == 0 {
		return []int{first - 1, last + 1, -7, 99}[d.roll(4)]
	}
	return first + d.roll(max(1, last-first+1))
}

// rolledEvent is an event in a world; the kinds of which there are more come more often.
func rolledEvent(d *dice, w impl.World, kinds string) impl.Event {
	e := impl.Event{Kind: int(kinds[d.roll(len(kinds))] - '0')}
	switch e.Kind {
	case 1:
		e.Edit = rolledEdits(d, w.Keeper.First, 1)[0]
		if d.roll(12) == 0 {
			wrong := wrongEdits(w.Keeper.First)
			e.Edit = wrong[d.roll(len(wrong))]
		}
	case 4, 5, 6:
		e.A = rolledNumber(d, 0, len(w.Nets)-1)
	default:
		e.A = rolledNumber(d, 1, len(w.Painters))
	}
	return e
}

// plays is how often each kind of event comes: most is brought; little is; all alike; much is doubled, and brought late; so much that there is no room; many fall; edits alone, nearly.
func plays() []string {
	return []string{
		"1222222222233333333334444444444444444444444568",
		"1222333334456",
		"0123456789",
		"112222233333344444444444446666",
		"1222233334666666",
		"12222233333444444444478888",
		"11111111112344",
	}
}

// rolledPlay is so many events from the beginning on, and the worlds behind each, without the program's help.
func rolledPlay(d *dice, g impl.Grid, many, steps int, kinds string) ([]impl.Event, []impl.World) {
	w := handNew(g, many)
	var events []impl.Event
	worlds := []impl.World{w}
	for range steps {
		e := rolledEvent(d, w, kinds)
		w = handHappen(w, e)
		events, worlds = append(events, e), append(worlds, w)
	}
	return events, worlds
}

// eachPlay tells plays in each grid, by one, two and three painters, with as many events as may be, and the worlds behind each, made without the program's help.
func eachPlay(t *testing.T, d *dice, grids []impl.Grid, tell func(g impl.Grid, many int, events []impl.Event, worlds []impl.World)) {
	t.Helper()
	all := plays()
	for i, g := range grids {
		for many := 1; many <= paintMost; many++ {
			events, worlds := rolledPlay(d, g, many, playMost, all[(i+many)%len(all)])
			tell(g, many, events, worlds)
		}
	}
}

// eachWorld tells some of the worlds amid plays, made without the program's help.
func eachWorld(t *testing.T, d *dice, grids []impl.Grid, tell func(w impl.World)) {
	t.Helper()
	eachPlay(t, d, grids, func(_ impl.Grid, _ int, _ []impl.Event, worlds []impl.World) {
		for _, at := range []int{0, 1 + d.roll(20), 21 + d.roll(20), playMost} {
			tell(worlds[at])
		}
	})
}

// editsOf is the edits of events that can be done.
func editsOf(g impl.Grid, events []impl.Event) []impl.Edit {
	var list []impl.Edit
	for _, e := range events {
		if e.Kind == 1 && handCan(g, e.Edit) {
			list = append(list, e.Edit)
		}
	}
	return list
}

// lastShown is what was shown last.
func lastShown(t *testing.T, w impl.World) impl.Shown {
	t.Helper()
	if len(w.Keeper.Shown) == 0 {
		t.Fatalf("%s: nothing is shown", worldText(w))
	}
	return w.Keeper.Shown[len(w.Keeper.Shown)-1]
}

// holdCame fails unless the newest version is shown last, all painters have it, and nothing is under way.
func holdCame(t *testing.T, w impl.World) {
	t.Helper()
	newest := len(w.Keeper.Edits)
	g := handGridOf(w.Keeper, newest)
	if last := lastShown(t, w); !sameShown(last, impl.Shown{Ver: newest, Pic: handPic(g)}) {
		t.Fatalf("%s: of %d versions the last that is shown is %v", worldText(w), newest, last)
	}
	for i, p := range w.Painters {
		if !samePainter(p, handPainter(newest, g)) {
			t.Fatalf("%s: %d has %v", worldText(w), i+1, p)
		}
	}
	if len(w.Nets) != 0 {
		t.Fatalf("%s: there are words under way", worldText(w))
	}
}
