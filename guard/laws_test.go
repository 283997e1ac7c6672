package guard_test

import (
	"math"
	"slices"
	"testing"

	"glasshouse/api"
	"glasshouse/frame"
	"glasshouse/guard"
)

// eachList visits all lists of so many frames, each in one ahead, of two origins, of these mays, and there or not, as is said.
func eachList(frames int, mays []int, there []bool, visit func(l []api.Frame)) {
	l := make([]api.Frame, frames)
	var fill func(k int)
	fill = func(k int) {
		if k == frames {
			visit(l)
			return
		}
		for parent := min(0, k-1); parent < k; parent++ {
			for _, may := range mays {
				for _, is := range there {
					for origin := range 2 {
						l[k] = api.Frame{Parent: parent, Origin: origin, May: may, Gone: !is}
						fill(k + 1)
					}
				}
			}
		}
	}
	fill(0)
}

// under answers which frames are in another one, at any depth, and aren't that: told from the top down.
func under(l []api.Frame, top int) []bool {
	is := make([]bool, len(l))
	for k := top + 1; k < len(l); k++ {
		is[k] = l[k].Parent == top || is[l[k].Parent]
	}
	return is
}

// told is what the chapter says of two frames of a right list, question by question.
func told(l []api.Frame, from, to, what int) api.Errno {
	secret := false
	switch what {
	case api.Touch:
		secret = l[from].Origin != l[to].Origin
	case api.Length:
	case api.Send:
		secret = l[from].May/2%2 == 0
	case api.Close, api.Move:
		secret = !under(l, from)[to]
	default:
		return api.ErrForm
	}
	if secret {
		return api.ErrSecret
	}
	return api.OK
}

// tally is how often each was answered.
type tally map[api.Errno]int

// hold: May answers of all these frames what the chapter says.
func (c tally) hold(t *testing.T, l []api.Frame) {
	t.Helper()
	wrong := frame.Check(l)
	for from := range l {
		for to := range l {
			for what := range 7 {
				want := told(l, from, to, what)
				if l[from].Gone || l[to].Gone {
					want = api.ErrGone
				}
				if wrong != api.OK {
					want = wrong
				}
				if e := guard.May(l, from, to, what); e != want {
					t.Fatalf("%+v: %d asks %d of %d: errno %d, want %d", l, from, what, to, e, want)
				}
				c[want]++
			}
		}
	}
}

// TestAllSmall: all frames of up to three that may one of few things, there or not; and all of four that are there.
func TestAllSmall(t *testing.T) {
	c := tally{}
	for frames := range 4 {
		eachList(frames, []int{0, api.Post, api.All}, []bool{true, false}, func(l []api.Frame) { c.hold(t, l) })
	}
	eachList(4, []int{0, api.All}, []bool{true}, func(l []api.Frame) { c.hold(t, l) })
	for _, e := range []api.Errno{api.OK, api.ErrForm, api.ErrGone, api.ErrSecret} {
		if c[e] < 1000 {
			t.Errorf("errno %d: %d times: too few", e, c[e])
		}
	}
}

// TestLaws: what follows of it, for any two frames, and for any three.
func TestLaws(t *testing.T) {
	eachList(4, []int{0, api.Post}, []bool{true}, func(l []api.Frame) {
		if frame.Check(l) != api.OK {
			return
		}
		may := func(from, to, what int) bool { return guard.May(l, from, to, what) == api.OK }
		for a := range l {
			for b := range l {
				if may(a, b, api.Touch) != may(b, a, api.Touch) {
					t.Fatalf("%+v: %d and %d: one may Touch the other, and not the other way round", l, a, b)
				}
				if may(a, b, api.Close) != may(a, b, api.Move) || may(a, b, api.Close) && may(b, a, api.Close) {
					t.Fatalf("%+v: %d and %d: each may Close the other, or one may Close and not Move", l, a, b)
				}
				// Who is in another one may send no more than that.
				if may(a, b, api.Close) && may(b, a, api.Send) && !may(a, b, api.Send) {
					t.Fatalf("%+v: %d may Send, which is in %d, which may not", l, b, a)
				}
				for c := range l {
					if may(a, b, api.Close) && may(b, c, api.Close) && !may(a, c, api.Close) {
						t.Fatalf("%+v: %d may Close %d, that may Close %d, and the first not the last", l, a, b, c)
					}
				}
			}
		}
	})
}

// TestAfterAWhile: what one may Close is gone then, and nothing is asked of it, or from it, any more.
func TestAfterAWhile(t *testing.T) {
	l := house()
	if e := guard.May(l, 0, 1, api.Close); e != api.OK {
		t.Fatal(e)
	}
	l, e := frame.Discard(l, 1)
	if e != api.OK {
		t.Fatal(e)
	}
	for _, what := range asks {
		for _, k := range []int{1, 2, 3} {
			wantMay(t, "of what was closed", l, 0, k, what, api.ErrGone)
			wantMay(t, "from what was closed", l, k, 0, what, api.ErrGone)
		}
	}
	wantMay(t, "beside what was closed", l, 0, 4, api.Close, api.OK)
}

// TestWild: no call panics, and each ends, whatever it is given; what Check says, May says; and the same call answers the same.
func TestWild(t *testing.T) {
	wild := []int{math.MinInt, -2, -1, 0, 1, 2, 7, 8, math.MaxInt}
	var lists [][]api.Frame
	for _, a := range wild {
		for _, b := range wild {
			lists = append(lists,
				[]api.Frame{{Parent: a, Origin: b, May: b, Turn: a}},
				[]api.Frame{{Parent: -1, May: a}, {Parent: b, May: a}},
				[]api.Frame{{Parent: -1}, {Parent: a, Gone: true}, {Parent: b}})
		}
	}
	// Frames in a ring, and in a row that is far too long.
	lists = append(lists, []api.Frame{{Parent: 1}, {Parent: 0}}, slices.Repeat([]api.Frame{{Parent: -1}}, 100000))
	for _, l := range lists {
		was := slices.Clone(l)
		want := frame.Check(l)
		for _, from := range wild {
			for _, to := range wild {
				for _, what := range wild {
					e := guard.May(l, from, to, what)
					if e != guard.May(l, from, to, what) || want != api.OK && e != want {
						t.Fatalf("%+v: %d asks %d of %d: errno %d, want %d", l, from, what, to, e, want)
					}
				}
			}
		}
		if !slices.Equal(l, was) {
			t.Fatalf("%+v became %+v", was, l)
		}
	}
}
