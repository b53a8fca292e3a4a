package tests

import (
	"runtime"
	"slices"
	"sync"
	"testing"
	"time"

	"loop.example/lucarne/impl"
)

// turnsGrids is grids with much to reckon, and with little, so that goroutines end in any order.
func turnsGrids(t *testing.T) []impl.Grid {
	return slices.Concat(roundGrids(t), wholeGrids(), gridsOf(42, 1, "./\\xz:159"))
}

// holdSame fails unless a grid's picture is, so many times over, this one.
func holdSame(t *testing.T, g impl.Grid, pic []int, to [][]int, times int) {
	t.Helper()
	text := handPicText(g, pic)
	for range times {
		if got := impl.PicOf(g); !slices.Equal(got, pic) {
			t.Errorf("%v: %v, not %v", g, got, pic)
			return
		}
		if got := impl.PicTo(g); !sameRows(got, to) {
			t.Errorf("%v: %v goes, not %v", g, got, to)
			return
		}
		if got := impl.PicText(g, pic); got != text {
			t.Errorf("%v: the text %q, not %q", g, got, text)
			return
		}
	}
}

func TestPicsAreTheSameEveryTime(t *testing.T) {
	defer runtime.GOMAXPROCS(runtime.GOMAXPROCS(0))
	for _, running := range []int{1, 2, 4, 16} {
		runtime.GOMAXPROCS(running)
		for _, g := range turnsGrids(t) {
			holdSame(t, g, handPic(g), handTo(g), 60)
		}
	}
}

func TestPicsOfOneGridAtTheSameTime(t *testing.T) {
	for _, g := range turnsGrids(t) {
		pic, to := handPic(g), handTo(g)
		var all sync.WaitGroup
		for range 8 {
			all.Go(func() { holdSame(t, g, pic, to, 10) })
		}
		all.Wait()
	}
}

func TestNoGoroutineIsLeft(t *testing.T) {
	ahead := runtime.NumGoroutine()
	for _, g := range withWrongGrids(turnsGrids(t)) {
		for range 20 {
			impl.PicOf(g)
			impl.PicTo(g)
			impl.PicText(g, nil)
		}
	}
	// One that has done all its work may still be counted for a moment.
	for range 2000 {
		if runtime.NumGoroutine() <= ahead {
			return
		}
		time.Sleep(time.Millisecond)
	}
	t.Errorf("%d goroutines ahead, %d behind", ahead, runtime.NumGoroutine())
}
