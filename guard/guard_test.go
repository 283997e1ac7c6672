package guard_test

import (
	"math"
	"slices"
	"testing"

	"glasshouse/api"
	"glasshouse/frame"
	"glasshouse/guard"
)

// asks is all that may be asked.
var asks = []int{api.Touch, api.Length, api.Send, api.Close, api.Move}

// noAsks is some of what may not.
var noAsks = []int{math.MinInt, -5, -1, 0, 6, 7, 99, math.MaxInt}

// house is one of right frames: 1 and 4 are in 0, 2 in 1, 3 in 2, 5 in 4 and 6 in 5, of which 5 and 6 are gone. 0 and 3 are of one origin, and so are 1 and 4; 0, 4, 5 and 6 may Post.
func house() []api.Frame {
	return []api.Frame{
		{Parent: -1, Origin: 1, May: api.All, Turn: 3},
		{Parent: 0, Origin: 2, May: api.Script | api.Nest},
		{Parent: 1, Origin: api.MaxOrigin, May: api.Script, Turn: api.MaxTurns},
		{Parent: 2, Origin: 1},
		{Parent: 0, Origin: 2, May: api.Post},
		{Parent: 4, Origin: 2, May: api.Post, Gone: true},
		{Parent: 5, Origin: 2, May: api.Post, Gone: true},
	}
}

// wantMay: this answer, of that question.
func wantMay(t *testing.T, where string, l []api.Frame, from, to, what int, want api.Errno) {
	t.Helper()
	if e := guard.May(l, from, to, what); e != want {
		t.Errorf("%s: %d asks %d of %d: errno %d, want %d", where, from, what, to, e, want)
	}
}

// wantTos: of those of the house that are there, frame from may ask this of these alone.
func wantTos(t *testing.T, from, what int, tos ...int) {
	t.Helper()
	for to := range 5 {
		want := api.ErrSecret
		if slices.Contains(tos, to) {
			want = api.OK
		}
		wantMay(t, "of the house", house(), from, to, what, want)
	}
}

func TestTouch(t *testing.T) {
	for from, tos := range [][]int{{0, 3}, {1, 4}, {2}, {0, 3}, {1, 4}} {
		wantTos(t, from, api.Touch, tos...)
	}
	// It hangs on the origins alone, the least and the most of them too.
	for a := range api.MaxOrigin + 1 {
		for b := range api.MaxOrigin + 1 {
			l := []api.Frame{{Parent: -1, Origin: a}, {Origin: b}}
			want := api.OK
			if a != b {
				want = api.ErrSecret
			}
			wantMay(t, "of two origins", l, 0, 1, api.Touch, want)
			wantMay(t, "of two origins", l, 1, 0, api.Touch, want)
		}
	}
}

func TestLength(t *testing.T) {
	for from := range 5 {
		wantTos(t, from, api.Length, 0, 1, 2, 3, 4)
	}
}

func TestSend(t *testing.T) {
	for from, tos := range [][]int{{0, 1, 2, 3, 4}, {}, {}, {}, {0, 1, 2, 3, 4}} {
		wantTos(t, from, api.Send, tos...)
	}
	// It hangs on the one that sends, and on nothing else that it may.
	for may := range api.All + 1 {
		l := []api.Frame{{Parent: -1, May: api.All}, {May: may}}
		want := api.ErrSecret
		if may == 2 || may == 3 || may == 6 || may == 7 {
			want = api.OK
		}
		wantMay(t, "into the one that it is in", l, 1, 0, api.Send, want)
		wantMay(t, "to itself", l, 1, 1, api.Send, want)
		wantMay(t, "from the one that it is in", l, 0, 1, api.Send, api.OK)
	}
}

func TestCloseAndMove(t *testing.T) {
	for _, what := range []int{api.Close, api.Move} {
		for from, tos := range [][]int{{1, 2, 3, 4}, {2, 3}, {3}, {}, {}} {
			wantTos(t, from, what, tos...)
		}
	}
}

// TestOneAlone: it may ask of itself what isn't Close or Move.
func TestOneAlone(t *testing.T) {
	l := []api.Frame{{Parent: -1, Origin: 4, May: api.Post}}
	for k, want := range []api.Errno{api.OK, api.OK, api.OK, api.ErrSecret, api.ErrSecret} {
		wantMay(t, "alone", l, 0, 0, asks[k], want)
	}
}

// TestNoneTellsWithoutPost: nor one in it, whatever that asks for.
func TestNoneTellsWithoutPost(t *testing.T) {
	l := []api.Frame{{Parent: -1, May: api.Script | api.Nest}}
	for k := range api.MaxFrames - 1 {
		var e api.Errno
		if l, e = frame.Attach(l, k, k, api.All); e != api.OK {
			t.Fatal(e)
		}
	}
	for from := range l {
		for to := range l {
			wantMay(t, "without Post", l, from, to, api.Send, api.ErrSecret)
		}
	}
}

// TestWrongFrames: what Check says is told ahead of all else.
func TestWrongFrames(t *testing.T) {
	for _, c := range []struct {
		where string
		l     []api.Frame
		want  api.Errno
	}{
		{"one too many", append(house(), api.Frame{}, api.Frame{}), api.ErrMany},
		{"far too many", make([]api.Frame, 200000), api.ErrMany},
		{"the first one is in itself", []api.Frame{{}}, api.ErrWho},
		{"in each other", []api.Frame{{Parent: -1}, {Parent: 2}, {Parent: 1}}, api.ErrWho},
		{"the last one is in none", append(house(), api.Frame{Parent: -1}), api.ErrWho},
		{"an origin above all", append(house(), api.Frame{Origin: api.MaxOrigin + 1}), api.ErrRange},
		{"what may not be", append(house(), api.Frame{May: -1}), api.ErrRange},
		{"a turn below all", append(house(), api.Frame{Turn: -1}), api.ErrRange},
		{"it may more", append(house(), api.Frame{Parent: 2, May: api.Post}), api.ErrForm},
		{"there in one that is gone", append(house(), api.Frame{Parent: 6}), api.ErrForm},
	} {
		for _, from := range []int{-1, 0, 1, 5, 9} {
			for _, to := range []int{-1, 0, 1, 5, 9} {
				for _, what := range slices.Concat(asks, noAsks) {
					wantMay(t, c.where, c.l, from, to, what, c.want)
				}
			}
		}
	}
}

// TestNotThere: what Holds says, of the one that asks first, whatever is asked.
func TestNotThere(t *testing.T) {
	for _, what := range slices.Concat(asks, noAsks) {
		for _, none := range []int{math.MinInt, -2, -1, 7, 8, math.MaxInt} {
			wantMay(t, "from none", house(), none, 0, what, api.ErrWho)
			wantMay(t, "of none", house(), 0, none, what, api.ErrWho)
			wantMay(t, "from none of itself", house(), none, none, what, api.ErrWho)
			wantMay(t, "from none of one that is gone", house(), none, 5, what, api.ErrWho)
			wantMay(t, "from one that is gone of none", house(), 5, none, what, api.ErrGone)
			wantMay(t, "of no frames", nil, none, none, what, api.ErrWho)
		}
		wantMay(t, "from one that is gone", house(), 5, 0, what, api.ErrGone)
		wantMay(t, "of one that is gone", house(), 0, 6, what, api.ErrGone)
		wantMay(t, "from one that is gone of one in it", house(), 5, 6, what, api.ErrGone)
		wantMay(t, "from one that is gone of itself", house(), 5, 5, what, api.ErrGone)
		wantMay(t, "of no frames, the first", []api.Frame{}, 0, 0, what, api.ErrWho)
	}
}

// TestNoSuchThing: what can't be asked, from nobody of nobody.
func TestNoSuchThing(t *testing.T) {
	for _, what := range noAsks {
		for from := range 5 {
			for to := range 5 {
				wantMay(t, "no such thing", house(), from, to, what, api.ErrForm)
			}
		}
	}
}

// TestOnlyRead: neither the frames nor the spare room behind them are changed.
func TestOnlyRead(t *testing.T) {
	spare := api.Frame{Parent: 70, Origin: 71, May: 72, Turn: 73}
	room := append(house(), spare, spare)
	was := slices.Clone(room)
	for from := -1; from <= len(room); from++ {
		for to := -1; to <= len(room); to++ {
			for _, what := range slices.Concat(asks, noAsks) {
				guard.May(room[:len(house())], from, to, what)
			}
		}
	}
	if !slices.Equal(room, was) {
		t.Errorf("%+v became %+v", was, room)
	}
}
