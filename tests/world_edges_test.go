package tests

import (
	"slices"
	"strings"
	"testing"

	"loop.example/lucarne/impl"
)

func TestWorldNames(t *testing.T) {
	if impl.NetMax != 10 || impl.PlayMax != 60 || impl.CalmMax != 20 {
		t.Fatal("limits are other ones")
	}
	if !slices.Equal([]int{impl.EvEdit, impl.EvTell, impl.EvPaint, impl.EvBring, impl.EvLose, impl.EvTwice, impl.EvFall, impl.EvRise}, []int{1, 2, 3, 4, 5, 6, 7, 8}) {
		t.Fatal("kinds of events are other ones")
	}
}

// lampGrid is a grid with a lamp at the place 3, and lampEdits what makes it as bright as 9, 1, 8, 2, so that each version has another picture.
func lampGrid(t *testing.T) impl.Grid {
	t.Helper()
	return mustRead(t, "x.\n:5\n")
}

func lampEdits() []impl.Edit {
	return []impl.Edit{edit(3, "9"), edit(3, "1"), edit(3, "8"), edit(3, "2")}
}

// step is an event, and the world of lampGrid behind it, written out by hand.
type step struct {
	event impl.Event
	world string
}

// holdSteps fails unless a world of lampGrid goes these steps, and is then ok; the edits are those of lampEdits, in their order.
func holdSteps(t *testing.T, edits int, text string, steps ...step) {
	t.Helper()
	g, all := lampGrid(t), lampEdits()
	w := mustReadWorld(t, g, all[:edits], text)
	for _, s := range steps {
		if s.event.Kind == 1 {
			s.event.Edit = all[edits]
			edits++
		}
		x := impl.WorldDo(w, s.event)
		holdWorld(t, "behind "+text+", and "+short(s.event), x, g, all[:edits], s.world)
		w, text = x, s.world
	}
}

func TestWorldByHand(t *testing.T) {
	holdSteps(t, 0, "- - |  | + + | ", []step{
		{tells(1), "- - |  | + + | w1:0"},
		{brings(0), "- - |  | 0 + | "},
		{paints(1), "- - |  | 0 + | p1:0"},
		{brings(0), "0 - |  | 0 + | "},
		{editEvent(impl.Edit{}), "0 - |  | 0 + | "},
		{paints(2), "0 - |  | 0 + | ?2"},
		{tells(1), "0 - |  | 0 + | ?2 e1:1"},
		{tells(2), "0 - |  | 0 + | ?2 e1:1 w2:1"},
		{brings(1), "0 - |  | 1 + | ?2 w2:1"},
		{brings(1), "0 - |  | 1 1 | ?2"},
		{paints(2), "0 - |  | 1 1 | ?2 p2:1"},
		{paints(1), "0 - |  | 1 1 | ?2 p2:1 p1:1"},
		{brings(1), "0 1 |  | 1 1 | ?2 p1:1"},
		{brings(1), "1 1 | 1 | 1 1 | ?2"},
		{brings(0), "1 - | 1 | 1 1 | "},
		{editEvent(impl.Edit{}), "1 - | 1 | 1 1 | "},
		{editEvent(impl.Edit{}), "1 - | 1 | 1 1 | "},
		{tells(1), "1 - | 1 | 1 1 | e1:2"},
		{tells(2), "1 - | 1 | 1 1 | e1:2 w2:3"},
		{doubles(0), "1 - | 1 | 1 1 | e1:2 w2:3 e1:2"},
		{brings(2), "1 - | 1 | 2 1 | e1:2 w2:3"},
		{brings(0), "1 - | 1 | 2 1 | w2:3"},
		{loses(0), "1 - | 1 | 2 1 | "},
		{falls(2), "1 - | 1 | 2 - | "},
		{rises(2), "1 - | 1 | 2 + | "},
	}...)
}

func TestWorldOfThreePainters(t *testing.T) {
	holdSteps(t, 1, "- - - |  | + + + | ", []step{
		{tells(3), "- - - |  | + + + | w3:1"},
		{tells(1), "- - - |  | + + + | w3:1 w1:1"},
		{tells(2), "- - - |  | + + + | w3:1 w1:1 w2:1"},
		{brings(2), "- - - |  | + 1 + | w3:1 w1:1"},
		{brings(0), "- - - |  | + 1 1 | w1:1"},
		{brings(0), "- - - |  | 1 1 1 | "},
		{paints(2), "- - - |  | 1 1 1 | p2:1"},
		{paints(3), "- - - |  | 1 1 1 | p2:1 p3:1"},
		{paints(1), "- - - |  | 1 1 1 | p2:1 p3:1 p1:1"},
		{brings(1), "- - 1 |  | 1 1 1 | p2:1 p1:1"},
		{brings(1), "1 - 1 |  | 1 1 1 | p2:1"},
		{brings(0), "1 1 1 | 1 | 1 1 1 | "},
	}...)
}

// nineWords is as many words as leave room for one more, of each kind.
const nineWords = "p2:0 e1:2 w1:2 ?1 e2:1 w2:0 ?2 p1:1 e1:1"

func TestNoRoom(t *testing.T) {
	for _, more := range []struct {
		world string // ahead of the words
		event impl.Event
		word  string
	}{
		{"1 - |  | 1 + | ", tells(1), "e1:2"},
		{"1 - |  | 1 + | ", tells(2), "w2:2"},
		{"1 - |  | 1 + | ", paints(1), "p1:1"},
		{"1 - |  | 1 + | ", paints(2), "?2"},
		{"1 - |  | 1 + | ", doubles(0), "p2:0"},
		{"1 - |  | 1 + | ", doubles(1), "e1:2"},
		{"1 - |  | 1 + | ", doubles(2), "w1:2"},
		{"1 - |  | 1 + | ", doubles(3), "?1"},
		{"1 - |  | 1 + | ", doubles(8), "e1:1"},
	} {
		// One less than there may be: it goes under way, behind all others. Then there is no room: it is lost.
		full := more.world + nineWords + " " + more.word
		holdSteps(t, 2, more.world+nineWords, step{more.event, full}, step{more.event, full})
		if more.event == doubles(0) {
			continue
		}
		// Behind one that goes, here the first word, there is room for one again; the words behind it are one place ahead then.
		if more.event.Kind == 6 {
			more.event.A--
		}
		left := strings.Replace(full, "p2:0 ", "", 1)
		again := left + " " + more.word
		holdSteps(t, 2, full, step{loses(0), left}, step{more.event, again}, step{more.event, again})
	}
}

func TestNoRoomForTheLastWord(t *testing.T) {
	ten := nineWords + " w1:2"
	holdSteps(t, 2, "1 - |  | 1 + | "+ten,
		step{doubles(9), "1 - |  | 1 + | " + ten},
		step{doubles(10), "1 - |  | 1 + | " + ten},
		step{brings(9), "1 - |  | 2 + | " + nineWords},
		step{doubles(8), "1 - |  | 2 + | " + nineWords + " e1:1"},
		step{brings(0), "1 0 |  | 2 + | e1:2 w1:2 ?1 e2:1 w2:0 ?2 p1:1 e1:1 e1:1"})
	// What does not let a word go under way happens though there is no room.
	holdSteps(t, 2, "1 - |  | 1 + | "+ten,
		step{editEvent(impl.Edit{}), "1 - |  | 1 + | " + ten},
		step{tells(1), "1 - |  | 1 + | " + ten},
		step{falls(1), "1 - |  | - + | " + ten},
		step{paints(1), "1 - |  | - + | " + ten},
		step{rises(1), "1 - |  | + + | " + ten})
}

func TestFirstWordLastWordOnePastTheEnd(t *testing.T) {
	three := "- - |  | + + | w1:0 w2:1 w1:2"
	for _, way := range []struct {
		event impl.Event
		world string
	}{
		{brings(0), "- - |  | 0 + | w2:1 w1:2"},
		{brings(1), "- - |  | + 1 | w1:0 w1:2"},
		{brings(2), "- - |  | 2 + | w1:0 w2:1"},
		{brings(3), three},
		{brings(-1), three},
		{loses(0), "- - |  | + + | w2:1 w1:2"},
		{loses(1), "- - |  | + + | w1:0 w1:2"},
		{loses(2), "- - |  | + + | w1:0 w2:1"},
		{loses(3), three},
		{loses(-1), three},
		{doubles(0), three + " w1:0"},
		{doubles(1), three + " w2:1"},
		{doubles(2), three + " w1:2"},
		{doubles(3), three},
		{doubles(-1), three},
	} {
		holdSteps(t, 2, three, step{way.event, way.world})
	}
	// With no words under way there is no first one.
	for _, kind := range []int{4, 5, 6} {
		for _, at := range []int{-1, 0, 1} {
			holdSteps(t, 2, "0 - |  | 1 + | ", step{impl.Event{Kind: kind, A: at}, "0 - |  | 1 + | "})
		}
	}
}

func TestFallsAndHadTold(t *testing.T) {
	// The keeper does not know that it fell: it tells the edit, which is nothing to who has nothing, until it hears that.
	holdSteps(t, 1, "0 1 | 0 | 0 1 | ",
		step{falls(1), "0 1 | 0 | - 1 | "},
		step{paints(1), "0 1 | 0 | - 1 | "},
		step{tells(1), "0 1 | 0 | - 1 | e1:1"},
		step{rises(1), "0 1 | 0 | + 1 | e1:1"},
		step{brings(0), "0 1 | 0 | + 1 | "},
		step{paints(1), "0 1 | 0 | + 1 | ?1"},
		step{tells(1), "0 1 | 0 | + 1 | ?1 e1:1"},
		step{brings(0), "- 1 | 0 | + 1 | e1:1"},
		step{brings(0), "- 1 | 0 | + 1 | "},
		step{tells(1), "- 1 | 0 | + 1 | w1:1"},
		step{brings(0), "- 1 | 0 | 1 1 | "},
		step{paints(1), "- 1 | 0 | 1 1 | p1:1"},
		step{brings(0), "1 1 | 0 1 | 1 1 | "})
}

func TestFallsAndItsPartIsUnderWay(t *testing.T) {
	// What it told is true of that version, though it fell: it is shown.
	holdSteps(t, 1, "- 1 |  | 1 1 | p1:1",
		step{falls(1), "- 1 |  | - 1 | p1:1"},
		step{brings(0), "1 1 | 1 | - 1 | "},
		step{tells(1), "1 1 | 1 | - 1 | w1:1"},
		step{brings(0), "1 1 | 1 | - 1 | "},
		step{rises(1), "1 1 | 1 | + 1 | "},
		step{tells(1), "1 1 | 1 | + 1 | w1:1"},
		step{brings(0), "1 1 | 1 | 1 1 | "},
		step{paints(1), "1 1 | 1 | 1 1 | p1:1"},
		step{brings(0), "1 1 | 1 | 1 1 | "})
	// A want that comes ahead of a part of an elder version does not count any more behind it.
	holdSteps(t, 2, "2 2 | 2 | 2 2 | p1:1",
		step{falls(1), "2 2 | 2 | - 2 | p1:1"},
		step{rises(1), "2 2 | 2 | + 2 | p1:1"},
		step{paints(1), "2 2 | 2 | + 2 | p1:1 ?1"},
		step{brings(1), "- 2 | 2 | + 2 | p1:1"},
		step{brings(0), "1 2 | 2 | + 2 | "},
		step{tells(1), "1 2 | 2 | + 2 | e1:2"},
		step{brings(0), "1 2 | 2 | + 2 | "})
}

func TestFallsWithWordsToItUnderWay(t *testing.T) {
	for _, word := range []string{"w1:1", "e1:1", "w1:0"} {
		// Who is not up hears nothing, and the word is gone.
		holdSteps(t, 1, "0 - |  | 0 1 | "+word,
			step{falls(1), "0 - |  | - 1 | " + word},
			step{brings(0), "0 - |  | - 1 | "},
			step{rises(1), "0 - |  | + 1 | "})
	}
	// One that rose ahead of it hears a whole, of an elder version, too, but no edit.
	holdSteps(t, 1, "0 - |  | 0 1 | e1:1 w1:0 w1:1",
		step{falls(1), "0 - |  | - 1 | e1:1 w1:0 w1:1"},
		step{rises(1), "0 - |  | + 1 | e1:1 w1:0 w1:1"},
		step{brings(0), "0 - |  | + 1 | w1:0 w1:1"},
		step{brings(0), "0 - |  | 0 1 | w1:1"},
		step{brings(0), "0 - |  | 1 1 | "})
}

func TestRisesWhenUpAndFallsTwice(t *testing.T) {
	for _, world := range []string{"0 - |  | 1 + | w1:1", "0 1 |  | 1 1 | p1:1 p2:0"} {
		holdSteps(t, 1, world, step{rises(1), world}, step{rises(2), world})
	}
	holdSteps(t, 1, "0 1 |  | 1 1 | w2:1",
		step{falls(2), "0 1 |  | 1 - | w2:1"},
		step{falls(2), "0 1 |  | 1 - | w2:1"},
		step{rises(2), "0 1 |  | 1 + | w2:1"},
		step{rises(2), "0 1 |  | 1 + | w2:1"},
		step{falls(2), "0 1 |  | 1 - | w2:1"})
}

func TestElderWordBehindALaterOne(t *testing.T) {
	// To a painter: it stays as it is, and the word is gone.
	for _, word := range []string{"w1:0", "w1:1", "w1:2", "e1:1", "e1:2"} {
		holdSteps(t, 2, "- - |  | + + | w1:2 "+word,
			step{brings(0), "- - |  | 2 + | " + word},
			step{brings(0), "- - |  | 2 + | "})
	}
	holdSteps(t, 3, "- - |  | 1 + | e1:2 e1:3",
		step{brings(1), "- - |  | 1 + | e1:2"},
		step{brings(0), "- - |  | 2 + | "})
	// To the keeper: it is what was told last, but no elder version is shown.
	holdSteps(t, 2, "- 1 | 1 | 2 1 | p1:2 p1:1 p1:0",
		step{brings(0), "2 1 | 1 | 2 1 | p1:1 p1:0"},
		step{brings(0), "1 1 | 1 | 2 1 | p1:0"},
		step{brings(0), "0 1 | 1 | 2 1 | "},
		step{tells(1), "0 1 | 1 | 2 1 | e1:1"},
		step{brings(0), "0 1 | 1 | 2 1 | "},
		step{paints(1), "0 1 | 1 | 2 1 | p1:2"},
		step{brings(0), "2 1 | 1 | 2 1 | "})
	// One that none was shown of, nor a later one, is.
	holdSteps(t, 2, "2 1 | 0 | 2 1 | p1:1", step{brings(0), "1 1 | 0 1 | 2 1 | "})
}

func TestEditsGoOnlyToTheKeeper(t *testing.T) {
	holdSteps(t, 0, "0 - | 0 | 0 + | p1:0 w2:0",
		step{editEvent(impl.Edit{}), "0 - | 0 | 0 + | p1:0 w2:0"},
		step{editEvent(impl.Edit{}), "0 - | 0 | 0 + | p1:0 w2:0"},
		step{editEvent(impl.Edit{}), "0 - | 0 | 0 + | p1:0 w2:0"},
		step{tells(1), "0 - | 0 | 0 + | p1:0 w2:0 w1:3"},
		step{brings(1), "0 - | 0 | 0 0 | p1:0 w1:3"},
		step{tells(2), "0 - | 0 | 0 0 | p1:0 w1:3 w2:3"})
}

func TestWorldsOfOneCell(t *testing.T) {
	for _, from := range signedCells() {
		for _, to := range signedCells() {
			g := impl.Grid{Wide: 1, Cells: []impl.Cell{from.cell}}
			e := impl.Edit{At: 0, Cell: to.cell}
			w := mustPlay(t, g, 3, []impl.Event{editEvent(e), tells(1), tells(2), tells(3), brings(0), brings(0), brings(0), paints(1), paints(2), paints(3), brings(0), brings(0), brings(0)})
			holdWorld(t, "one cell", w, g, []impl.Edit{e}, "1 1 1 | 1 | 1 1 1 | ")
			light := 64 * to.cell.Light
			if !slices.Equal(w.Keeper.Shown[0].Pic, []int{light, light, light, light}) {
				t.Fatalf("%v, put %v: shown is %v", from.cell, to.cell, w.Keeper.Shown)
			}
		}
	}
}

func TestPlaysUpToPlayMax(t *testing.T) {
	d := &dice{97}
	for i, g := range worldGrids(t) {
		many := 1 + i%paintMost
		events, worlds := rolledPlay(d, g, many, playMost+1, plays()[0])
		if w := mustPlay(t, g, many, nil); !sameWorld(w, worlds[0]) {
			t.Fatalf("behind no events it is %s", worldText(w))
		}
		if w := mustPlay(t, g, many, []impl.Event{}); !sameWorld(w, worlds[0]) {
			t.Fatalf("behind an empty list of events it is %s", worldText(w))
		}
		if w := mustPlay(t, g, many, events[:playMost]); !sameWorld(w, worlds[playMost]) {
			t.Fatalf("behind PlayMax events it is %s, not %s", worldText(w), worldText(worlds[playMost]))
		}
		holdNotPlayed(t, "one more than PlayMax", g, many, events)
		// What changes nothing counts, too.
		holdNotPlayed(t, "one more of no kind", g, many, append(slices.Clone(events[:playMost]), impl.Event{}))
		holdNotPlayed(t, "far more than PlayMax", g, many, make([]impl.Event, 100000))
	}
}

func TestCalmUpToCalmMax(t *testing.T) {
	d := &dice{98}
	for i, g := range worldGrids(t) {
		_, worlds := rolledPlay(d, g, 1+i%paintMost, 30, plays()[i%len(plays())])
		w := worlds[30]
		if x := mustCalm(t, w, 0); !sameWorld(x, w) {
			t.Fatalf("%s: behind no rounds it is %s", worldText(w), worldText(x))
		}
		holdCame(t, mustCalm(t, w, calmMost))
		for _, rounds := range []int{-1, calmMost + 1, calmMost + 2, -calmMost, 1 << 32, -1 << 63, 1<<63 - 1, 256, 256 + 1, 1<<32 + 1} {
			if x := impl.WorldCalm(w, rounds); !isNoWorld(x) {
				t.Fatalf("%s: behind %d rounds it is %s", worldText(w), rounds, worldText(x))
			}
		}
	}
}

func TestCalmRoundsByHand(t *testing.T) {
	g, all := lampGrid(t), lampEdits()
	for _, way := range []struct {
		edits  int
		worlds []string // ahead, and behind each round
	}{
		// In the first round a painter that has nothing comes to the newest; in the second one it tells that.
		{0, []string{"- |  | + | ", "- |  | 0 | ", "0 | 0 | 0 | ", "0 | 0 | 0 | "}},
		{1, []string{"- - |  | - - | ", "- - |  | 1 1 | ", "1 1 | 1 | 1 1 | ", "1 1 | 1 | 1 1 | "}},
		// Who is near comes to it by an edit each round, who is far at once.
		{3, []string{"- 0 |  | 1 0 | ", "1 0 |  | 2 3 | ", "2 3 |  | 3 3 | ", "3 3 | 3 | 3 3 | "}},
		// A version on the way that all have is shown.
		{2, []string{"- - |  | 0 0 | ", "0 0 | 0 | 1 1 | ", "1 1 | 0 1 | 2 2 | ", "2 2 | 0 1 2 | 2 2 | "}},
		// All that is under way is brought first: the part of an elder version, too, and then who tells is believed.
		{2, []string{"2 2 | 2 | 2 2 | p1:0 ?2", "2 2 | 2 | 2 2 | "}},
		{1, []string{"0 1 | 0 | - 1 | p1:0 e1:1", "- 1 | 0 | 1 1 | ", "1 1 | 0 1 | 1 1 | "}},
		// Words under way to who is down are gone when it rises.
		{0, []string{"- - - |  | + - 0 | w1:0 w2:0 p3:0", "0 - 0 |  | 0 0 0 | ", "0 0 0 | 0 | 0 0 0 | "}},
		// With as many words as may be: on the way the versions 0 and 1 are shown.
		{2, []string{"0 - |  | 0 + | " + nineWords + " p2:1", "2 0 | 0 1 | 2 1 | ", "2 1 | 0 1 | 2 2 | ", "2 2 | 0 1 2 | 2 2 | "}},
	} {
		w := mustReadWorld(t, g, all[:way.edits], way.worlds[0])
		for rounds, world := range way.worlds[1:] {
			holdWorld(t, "behind calm rounds", mustCalm(t, w, rounds+1), g, all[:way.edits], world)
		}
	}
}

func TestEditsUpToVerMax(t *testing.T) {
	d := &dice{99}
	for i, g := range worldGrids(t)[:24] {
		many := 1 + i%paintMost
		edits := rolledEdits(d, g, verMost+1)
		var events []impl.Event
		for _, e := range edits {
			events = append(events, editEvent(e))
		}
		w := mustPlay(t, g, many, events[:verMost])
		if want := handPlay(handNew(g, many), events[:verMost]...); !sameWorld(w, want) || len(w.Keeper.Edits) != verMost {
			t.Fatalf("behind VerMax edits it is %s, %v", worldText(w), w.Keeper)
		}
		holdWorldStays(t, "one more than VerMax", w, events[verMost])
		x := mustCalm(t, w, sixRounds)
		holdCame(t, x)
		holdWorldStays(t, "one more than VerMax", x, events[verMost])
		// With one less there is just one more.
		w = mustHappen(t, mustPlay(t, g, many, events[1:verMost]), events[verMost])
		if !slices.Equal(w.Keeper.Edits, edits[1:]) {
			t.Fatalf("the edits are %v", w.Keeper.Edits)
		}
		holdWorldStays(t, "one more than VerMax", w, events[0])
	}
}

func TestWordsOfVerMax(t *testing.T) {
	g := lampGrid(t)
	edits := rolledEdits(&dice{100}, g, verMost)
	w := mustReadWorld(t, g, edits, "59 60 | 58 | 59 60 | ")
	for _, s := range []step{
		{tells(1), "59 60 | 58 | 59 60 | e1:60"},
		{tells(2), "59 60 | 58 | 59 60 | e1:60 w2:60"},
		{brings(0), "59 60 | 58 | 60 60 | w2:60"},
		{paints(1), "59 60 | 58 | 60 60 | w2:60 p1:60"},
		{brings(1), "60 60 | 58 60 | 60 60 | w2:60"},
		{brings(0), "60 60 | 58 60 | 60 60 | "},
	} {
		w = impl.WorldDo(w, s.event)
		holdWorld(t, "VerMax", w, g, edits, s.world)
	}
}

func TestOtherPartsOfAnEventDoNotCount(t *testing.T) {
	d := &dice{101}
	eachWorld(t, d, worldGrids(t)[:20], func(w impl.World) {
		for _, e := range eachEvent(d, w) {
			other := e
			if e.Kind == 1 {
				other.A = []int{-1, 1, 99}[d.roll(3)]
			} else {
				other.Edit = []impl.Edit{edit(0, "5"), edit(99, "."), {Cell: impl.Cell{Kind: 9}}}[d.roll(3)]
			}
			if x := impl.WorldDo(w, other); !sameWorld(x, handHappen(w, e)) {
				t.Fatalf("%s: behind %v it is %s", worldText(w), other, worldText(x))
			}
		}
	})
}

// rolledWorld is a world in which all is true, whether a play leads there or not.
func rolledWorld(t *testing.T, d *dice, g impl.Grid, newest, many int) impl.World {
	t.Helper()
	w := impl.World{Keeper: handKeeper(g, rolledEdits(d, g, newest), rolledTold(d, newest, many), rolledShown(d, newest))}
	for _, ver := range rolledTold(d, newest, many) {
		p := impl.Painter{Up: d.roll(2) == 0}
		if ver >= 0 {
			p = handPainter(ver, handGridOf(w.Keeper, ver))
		}
		w.Painters = append(w.Painters, p)
	}
	for range d.roll(netMost + 1) {
		w.Nets = append(w.Nets, rolledWord(t, d, w.Keeper))
	}
	return w
}

// rolledWord is a true word of any kind, version and painter.
func rolledWord(t *testing.T, d *dice, k impl.Keeper) impl.Word {
	t.Helper()
	id, newest := verText(true, 1+d.roll(len(k.Parts))), len(k.Edits)
	ver := ":" + verText(true, d.roll(newest+1))
	words := []string{"?" + id, "w" + id + ver, "p" + id + ver}
	if newest > 0 {
		words = append(words, "e"+id+":"+verText(true, 1+d.roll(newest)))
	}
	return readWord(t, k, words[d.roll(len(words))])
}

func TestWorldsThatNoPlayLeadsTo(t *testing.T) {
	d := &dice{107}
	for _, g := range worldGrids(t) {
		for many := 1; many <= paintMost; many++ {
			for _, newest := range []int{0, 1, 3, 5} {
				w := rolledWorld(t, d, g, newest, many)
				if !impl.WorldOk(w) {
					t.Fatalf("not ok: %s, %v", worldText(w), w)
				}
				for range 4 {
					e := rolledEvent(d, w, "12345678")
					if x := mustHappen(t, w, e); !sameWorld(x, handHappen(w, e)) {
						t.Fatalf("%s: behind %v it is %s", worldText(w), e, worldText(x))
					}
				}
				if x := mustCalm(t, w, 1); !sameWorld(x, handRound(w)) {
					t.Fatalf("%s: behind a calm round it is %s", worldText(w), worldText(x))
				}
				holdCame(t, mustCalm(t, w, sixRounds))
			}
		}
	}
}
