package nav_test

import (
	"math"
	"slices"
	"testing"

	"glasshouse/api"
	"glasshouse/frame"
	"glasshouse/nav"
)

// eachList visits all lists of so many frames, each in one ahead, of these mays, at the first turn or the last one, there or not.
func eachList(frames int, mays []int, visit func(l []api.Frame)) {
	l := make([]api.Frame, frames)
	var fill func(k int)
	fill = func(k int) {
		if k == frames {
			visit(l)
			return
		}
		for parent := min(0, k-1); parent < k; parent++ {
			for _, may := range mays {
				for _, turn := range []int{0, api.MaxTurns} {
					for _, gone := range []bool{false, true} {
						l[k] = api.Frame{Parent: parent, Origin: k, May: may, Turn: turn, Gone: gone}
						fill(k + 1)
					}
				}
			}
		}
	}
	fill(0)
}

// told is what the chapter says of frame k of a right list: told from the top down.
func told(l []api.Frame, k, origin int) ([]api.Frame, api.Errno) {
	switch {
	case l[k].Gone:
		return nil, api.ErrGone
	case origin < 0 || origin > 9:
		return nil, api.ErrRange
	case l[k].Turn >= 1000:
		return nil, api.ErrMany
	}
	want := slices.Clone(l)
	left := map[int]bool{k: true}
	for at := k + 1; at < len(l); at++ {
		if left[l[at].Parent] {
			left[at], want[at].Gone = true, true
		}
	}
	want[k] = api.Frame{Parent: l[k].Parent, Origin: origin, May: l[k].May, Turn: l[k].Turn + 1}
	return want, api.OK
}

// tally is how often each was answered.
type tally map[api.Errno]int

// hold: Go answers of all these frames what the chapter says.
func (c tally) hold(t *testing.T, l []api.Frame) {
	t.Helper()
	wrong := frame.Check(l)
	for k := range l {
		for _, origin := range []int{-1, 0, 2, api.MaxOrigin, api.MaxOrigin + 1} {
			want, why := told(l, k, origin)
			if wrong != api.OK {
				want, why = nil, wrong
			}
			got, e := nav.Go(l, k, origin)
			if e != why || !slices.Equal(got, want) {
				t.Fatalf("%+v: %d goes to %d: %+v, errno %d, want %+v, errno %d", l, k, origin, got, e, want, why)
			}
			c[e]++
			if e == api.OK {
				holdLaws(t, l, got, k, origin)
			}
		}
	}
}

// holdLaws: what follows of it: it is there, and not where it was; none may other things, none came back; all that was in it, and nothing else, isn't there any more.
func holdLaws(t *testing.T, l, moved []api.Frame, k, origin int) {
	t.Helper()
	if e := frame.Check(moved); e != api.OK {
		t.Fatalf("%+v: %d goes to %d: wrong frames: errno %d", l, k, origin, e)
	}
	if nav.Still(moved, k, l[k].Turn) || !nav.Still(moved, k, l[k].Turn+1) {
		t.Fatalf("%+v: %d goes to %d: it is still where it was, or isn't there", l, k, origin)
	}
	for at := range l {
		if moved[at].May != l[at].May || moved[at].Parent != l[at].Parent || l[at].Gone && !moved[at].Gone {
			t.Fatalf("%+v: %d goes to %d: %d became %+v", l, k, origin, at, moved[at])
		}
		was, is := nav.Still(l, at, l[at].Turn), nav.Still(moved, at, l[at].Turn)
		if was && is == frame.Within(l, at, k) {
			t.Fatalf("%+v: %d goes to %d: is %d still there: %t", l, k, origin, at, is)
		}
	}
	if length, e := frame.Length(moved, k); length != 0 || e != api.OK {
		t.Fatalf("%+v: %d goes to %d: %d are in it, errno %d", l, k, origin, length, e)
	}
}

// TestAllSmall: all frames of up to four, those of four that may nothing.
func TestAllSmall(t *testing.T) {
	c := tally{}
	for frames := range 4 {
		eachList(frames, []int{0, api.Nest, api.All}, func(l []api.Frame) { c.hold(t, l) })
	}
	eachList(4, []int{0}, func(l []api.Frame) { c.hold(t, l) })
	for _, e := range []api.Errno{api.OK, api.ErrMany, api.ErrRange, api.ErrForm, api.ErrGone} {
		if c[e] < 1000 {
			t.Errorf("errno %d: %d times: too few", e, c[e])
		}
	}
}

// TestNeverAgain: however frames go on, and are discarded, and attached, none is again at a turn that it left.
func TestNeverAgain(t *testing.T) {
	l := []api.Frame{{Parent: -1, May: api.All}}
	left := map[[2]int]bool{}
	for step := range 400 {
		k := step * 7 % api.MaxFrames
		was := slices.Clone(l)
		next, e := nav.Go(l, k, step%(api.MaxOrigin+1))
		switch step % 5 {
		case 0, 2, 3:
			next, e = frame.Attach(l, k, step%3, api.All)
		case 4:
			if step%3 == 0 && k > 0 {
				next, e = frame.Discard(l, k)
			}
		}
		if e == api.OK {
			l = next
		}
		for at, f := range was {
			if !f.Gone && !nav.Still(l, at, f.Turn) {
				left[[2]int{at, f.Turn}] = true
			}
		}
		for at := range left {
			if nav.Still(l, at[0], at[1]) {
				t.Fatalf("step %d: %d is again at turn %d", step, at[0], at[1])
			}
		}
	}
	if len(l) < api.MaxFrames || len(left) < 2*api.MaxFrames {
		t.Errorf("%d frames, %d times that one left: too few", len(l), len(left))
	}
}

// wildLists answers lists of frames of wild numbers, frames in a ring, and far too many.
func wildLists(wild []int) [][]api.Frame {
	lists := [][]api.Frame{{{Parent: 1}, {Parent: 0}}, make([]api.Frame, 100000)}
	for _, a := range wild {
		for _, b := range wild {
			f := api.Frame{Parent: a, Origin: b, May: b, Turn: a}
			lists = append(lists, []api.Frame{f}, []api.Frame{{Parent: -1, Turn: b}, f}, []api.Frame{{Parent: -1}, {Gone: true}, {Parent: a, Turn: b}})
		}
	}
	return lists
}

// TestWild: no call panics, and each ends, whatever it is given; what Check says, Go says; the same call answers the same, and changes nothing.
func TestWild(t *testing.T) {
	wild := []int{math.MinInt, -2, -1, 0, 1, 2, 7, 8, api.MaxTurns, math.MaxInt}
	for _, l := range wildLists(wild) {
		was, want := slices.Clone(l), frame.Check(l)
		for _, k := range wild {
			for _, n := range wild {
				got, e := nav.Go(l, k, n)
				again, f := nav.Go(l, k, n)
				if e != f || !slices.Equal(got, again) || want != api.OK && e != want || e != api.OK && got != nil {
					t.Fatalf("%+v: %d goes to %d: %+v, errno %d; again: %+v, errno %d", l, k, n, got, e, again, f)
				}
				if nav.Still(l, k, n) != (frame.Holds(l, k) == api.OK && l[k].Turn == n) {
					t.Fatalf("%+v: is %d still at turn %d", l, k, n)
				}
			}
		}
		if !slices.Equal(l, was) {
			t.Fatalf("%+v became %+v", was, l)
		}
	}
}
