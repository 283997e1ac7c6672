package nav_test

import (
	"math"
	"slices"
	"testing"

	"glasshouse/api"
	"glasshouse/frame"
	"glasshouse/nav"
)

// house is one of right frames: 1 and 4 are in 0, 2 in 1, 3 in 2, 5 in 4 and 6 in 5, of which 5 and 6 are gone; 2 can go nowhere any more.
func house() []api.Frame {
	return []api.Frame{
		{Parent: -1, Origin: 1, May: api.All, Turn: 3},
		{Parent: 0, Origin: 2, May: api.Script | api.Nest},
		{Parent: 1, Origin: api.MaxOrigin, May: api.Script, Turn: api.MaxTurns},
		{Parent: 2, Origin: 1, Turn: api.MaxTurns - 1},
		{Parent: 0, Origin: 2, May: api.Post},
		{Parent: 4, Origin: 2, May: api.Post, Gone: true},
		{Parent: 5, Origin: 2, Turn: api.MaxTurns, Gone: true},
	}
}

// noFrames is some of what is no frame of the house.
var noFrames = []int{math.MinInt, -2, -1, 7, 8, math.MaxInt}

// noOrigins is some of what is no origin.
var noOrigins = []int{math.MinInt, -2, -1, api.MaxOrigin + 1, 11, math.MaxInt}

// wantGo: these frames come of it, and nothing is wrong.
func wantGo(t *testing.T, where string, l []api.Frame, k, origin int, want []api.Frame) {
	t.Helper()
	if got, e := nav.Go(l, k, origin); e != api.OK || !slices.Equal(got, want) {
		t.Errorf("%s: %d goes to %d: %+v, errno %d, want %+v", where, k, origin, got, e, want)
	}
}

// wantStay: that error, and nothing beside it.
func wantStay(t *testing.T, where string, l []api.Frame, k, origin int, want api.Errno) {
	t.Helper()
	if got, e := nav.Go(l, k, origin); e != want || got != nil {
		t.Errorf("%s: %d goes to %d: %+v, errno %d, want errno %d", where, k, origin, got, e, want)
	}
}

// wantStill: this answer, of that question.
func wantStill(t *testing.T, where string, l []api.Frame, k, turn int, want bool) {
	t.Helper()
	if got := nav.Still(l, k, turn); got != want {
		t.Errorf("%s: is %d still at turn %d: %t, want %t", where, k, turn, got, want)
	}
}

func TestGo(t *testing.T) {
	want := house()
	want[0].Origin, want[0].Turn = 7, 4
	for k := 1; k < len(want); k++ {
		want[k].Gone = true
	}
	wantGo(t, "the one that all are in", house(), 0, 7, want)

	want = house()
	want[1].Origin, want[1].Turn = 0, 1
	want[2].Gone, want[3].Gone = true, true
	wantGo(t, "one with two in it, at two depths", house(), 1, 0, want)

	want = house()
	want[3].Origin, want[3].Turn = api.MaxOrigin, api.MaxTurns
	wantGo(t, "one with none in it, for the last time", house(), 3, api.MaxOrigin, want)

	want = house()
	want[4].Origin, want[4].Turn = 5, 1
	wantGo(t, "one with none in it that is there", house(), 4, 5, want)
}

// TestGoWhereItIs: its own origin is elsewhere, too.
func TestGoWhereItIs(t *testing.T) {
	want := house()
	want[1].Turn = 1
	want[2].Gone, want[3].Gone = true, true
	wantGo(t, "to its own origin", house(), 1, 2, want)
}

// TestGoAlone: to any origin, at any turn but the last, whatever it may.
func TestGoAlone(t *testing.T) {
	for origin := range api.MaxOrigin + 1 {
		for may := range api.All + 1 {
			for _, turn := range []int{0, 1, 500, api.MaxTurns - 1} {
				l := []api.Frame{{Parent: -1, Origin: 3, May: may, Turn: turn}}
				wantGo(t, "alone", l, 0, origin, []api.Frame{{Parent: -1, Origin: origin, May: may, Turn: turn + 1}})
			}
			last := []api.Frame{{Parent: -1, Origin: 3, May: may, Turn: api.MaxTurns}}
			wantStay(t, "alone, too often", last, 0, origin, api.ErrMany)
		}
	}
}

// TestGoUntilTheEnd: one frame goes as often as it can, and is at no turn twice.
func TestGoUntilTheEnd(t *testing.T) {
	l := []api.Frame{{Parent: -1, May: api.Nest}}
	for turn := range api.MaxTurns {
		wantStill(t, "on the way", l, 0, turn, true)
		var e api.Errno
		if l, e = nav.Go(l, 0, turn%2); e != api.OK {
			t.Fatalf("turn %d: errno %d", turn, e)
		}
		wantStill(t, "on the way", l, 0, turn, false)
	}
	wantStill(t, "at the end", l, 0, api.MaxTurns, true)
	wantStay(t, "at the end", l, 0, 0, api.ErrMany)
}

// TestWrongFrames: what Check says is told ahead of all else; one of each error, by a last frame that doesn't fit.
func TestWrongFrames(t *testing.T) {
	for want, last := range map[api.Errno][]api.Frame{
		api.ErrMany:  {{}, {}},
		api.ErrWho:   {{Parent: -1}},
		api.ErrRange: {{Origin: api.MaxOrigin + 1}},
		api.ErrForm:  {{Parent: 2, May: api.Post}},
	} {
		l := append(house(), last...)
		for _, k := range append([]int{0, 1, 2, 5}, noFrames...) {
			for _, origin := range append([]int{0, api.MaxOrigin}, noOrigins...) {
				wantStay(t, "wrong frames", l, k, origin, want)
			}
		}
	}
}

// TestNotThere: what Holds says, wherever it would go, and however often it went.
func TestNotThere(t *testing.T) {
	for _, origin := range append([]int{0, api.MaxOrigin}, noOrigins...) {
		for _, none := range noFrames {
			wantStay(t, "none", house(), none, origin, api.ErrWho)
			wantStay(t, "of no frames", nil, none, origin, api.ErrWho)
		}
		wantStay(t, "of no frames, the first", []api.Frame{}, 0, origin, api.ErrWho)
		wantStay(t, "gone", house(), 5, origin, api.ErrGone)
		wantStay(t, "gone, at its last turn", house(), 6, origin, api.ErrGone)
	}
}

// TestNowhere: no such origin, which is told ahead of the turn; else the turn.
func TestNowhere(t *testing.T) {
	for k := range 5 {
		for _, origin := range noOrigins {
			wantStay(t, "nowhere", house(), k, origin, api.ErrRange)
		}
	}
	for origin := range api.MaxOrigin + 1 {
		wantStay(t, "too often", house(), 2, origin, api.ErrMany)
	}
}

func TestStill(t *testing.T) {
	turns := []int{3, 0, api.MaxTurns, api.MaxTurns - 1, 0}
	wild := []int{math.MinInt, -1, 0, 1, 2, 3, 4, api.MaxTurns - 1, api.MaxTurns, api.MaxTurns + 1, math.MaxInt}
	for _, turn := range wild {
		for k, is := range turns {
			wantStill(t, "of the house", house(), k, turn, turn == is)
		}
		for _, k := range append([]int{5, 6}, noFrames...) {
			wantStill(t, "not there", house(), k, turn, false)
		}
		wantStill(t, "of no frames", nil, 0, turn, false)
	}
}

// TestStillOfWrongFrames: it asks what Holds says, and nothing of the other frames, or of what else is wrong with it.
func TestStillOfWrongFrames(t *testing.T) {
	l := []api.Frame{{Parent: 7, Origin: -1, May: 99, Turn: -5}, {Parent: 1, Turn: math.MaxInt}, {Parent: 0, Turn: 2, Gone: true}}
	wantStill(t, "wrong", l, 0, -5, true)
	wantStill(t, "wrong", l, 0, 0, false)
	wantStill(t, "wrong", l, 1, math.MaxInt, true)
	wantStill(t, "wrong and gone", l, 2, 2, false)
	wantStill(t, "wrong, and none", l, 3, 0, false)
	many := make([]api.Frame, 1000)
	wantStill(t, "too many", many, 999, 0, true)
	wantStill(t, "too many", many, 1000, 0, false)
}

// TestOnlyRead: neither the frames nor the spare room behind them are changed, and what is answered is other memory.
func TestOnlyRead(t *testing.T) {
	spare := api.Frame{Parent: 70, Origin: 71, May: 72, Turn: 73}
	room := append(house(), spare, spare)
	was := slices.Clone(room)
	l := room[:len(house())]
	for k := -1; k <= len(room); k++ {
		for origin := -1; origin <= api.MaxOrigin+1; origin++ {
			nav.Still(l, k, origin)
			got, _ := nav.Go(l, k, origin)
			got = got[:cap(got)]
			for at := range got {
				got[at] = api.Frame{Parent: 80, Origin: 81, May: 82, Turn: 83}
			}
		}
	}
	if !slices.Equal(room, was) {
		t.Errorf("%+v became %+v", was, room)
	}
}

// TestInIt: after it went, new ones may be in it, and may no more than it; those that were in it are not there again.
func TestInIt(t *testing.T) {
	l, e := nav.Go(house(), 1, 8)
	if e != api.OK {
		t.Fatal(e)
	}
	l, e = frame.Attach(l, 1, 8, api.All)
	if e != api.OK {
		t.Fatal(e)
	}
	if want := (api.Frame{Parent: 1, Origin: 8, May: api.Script | api.Nest}); l[7] != want {
		t.Errorf("attached: %+v, want %+v", l[7], want)
	}
	for _, k := range []int{2, 3} {
		wantStay(t, "what was in it", l, k, 0, api.ErrGone)
		wantStill(t, "what was in it", l, k, l[k].Turn, false)
	}
	l, e = nav.Go(l, 1, 2)
	if e != api.OK || !l[7].Gone || l[1].Turn != 2 || l[1].Gone {
		t.Errorf("on from there: %+v, errno %d", l, e)
	}
}
