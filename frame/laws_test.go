package frame_test

import (
	"math"
	"slices"
	"testing"

	"glasshouse/api"
	"glasshouse/frame"
)

// parents answers what frame k may be in.
func parents(k int) []int {
	if k == 0 {
		return []int{-1}
	}
	ahead := make([]int, k)
	for parent := range ahead {
		ahead[parent] = parent
	}
	return ahead
}

// allFrames answers all lists of so many frames, each in one ahead, of these mays, gone or not.
func allFrames(frames int, mays []int) [][]api.Frame {
	lists := [][]api.Frame{nil}
	for k := range frames {
		var longer [][]api.Frame
		for _, l := range lists {
			for _, parent := range parents(k) {
				for _, may := range mays {
					f := api.Frame{Parent: parent, Origin: k, May: may, Turn: 10 * k}
					longer = append(longer, append(l[:k:k], f), append(l[:k:k], gone(f)))
				}
			}
		}
		lists = longer
	}
	return lists
}

// inside is which frames are top, or in it, at any depth: told from the top down.
func inside(l []api.Frame, top int) []bool {
	is := make([]bool, len(l))
	is[top] = true
	for k := top + 1; k < len(l); k++ {
		is[k] = is[l[k].Parent]
	}
	return is
}

// mayMore tells whether one may what another one may not, thing by thing.
func mayMore(f, than api.Frame) bool {
	for _, what := range []int{api.Script, api.Post, api.Nest} {
		if f.May&what != 0 && than.May&what == 0 {
			return true
		}
	}
	return false
}

// fit tells whether no frame may more than any that it is in, at any depth, or is there while that is gone.
func fit(l []api.Frame) bool {
	for top := range l {
		for k, is := range inside(l, top) {
			if is && (mayMore(l[k], l[top]) || l[top].Gone && !l[k].Gone) {
				return false
			}
		}
	}
	return true
}

// tally is how much was tried.
type tally struct{ right, wrong, attached, discarded, gone int }

// holdCheck: Check says what is wrong with how the frames stand, and nothing else.
func (c *tally) holdCheck(t *testing.T, l []api.Frame) bool {
	t.Helper()
	want := api.ErrForm
	if fit(l) {
		want = api.OK
		c.right++
	} else {
		c.wrong++
	}
	if e := frame.Check(l); e != want {
		t.Fatalf("%+v: errno %d, want %d", l, e, want)
	}
	return want == api.OK
}

// holdAsk: Holds, Within, Length and Discard, of right frames, are as the chapter says.
func (c *tally) holdAsk(t *testing.T, l []api.Frame, k int) {
	t.Helper()
	is := inside(l, k)
	want := slices.Clone(l)
	for at := range l {
		if got := frame.Within(l, at, k); got != is[at] {
			t.Fatalf("%+v: %d within %d: %v", l, at, k, got)
		}
		want[at].Gone = l[at].Gone || is[at]
	}
	length, e := frame.Length(l, k)
	without, f := frame.Discard(l, k)
	if l[k].Gone {
		if h := frame.Holds(l, k); h != api.ErrGone || e != api.ErrGone || f != api.ErrGone || length != 0 || without != nil {
			t.Fatalf("%+v: %d: errnos %d, %d, %d, %d, %+v", l, k, h, e, f, length, without)
		}
		c.gone++
		return
	}
	there := 0
	for at := range l {
		if at != k && l[at].Parent == k && !l[at].Gone {
			there++
		}
	}
	if h := frame.Holds(l, k); h != api.OK || e != api.OK || f != api.OK || length != there || !slices.Equal(without, want) || !fit(without) {
		t.Fatalf("%+v: %d: errnos %d, %d, %d, %d, %+v", l, k, h, e, f, length, without)
	}
	c.discarded++
}

// holdAttach: what is attached to right frames may what both say, and all others stay as they were.
func (c *tally) holdAttach(t *testing.T, l []api.Frame, k, may int) {
	t.Helper()
	got, e := frame.Attach(l, k, api.MaxOrigin, may)
	want := api.OK
	if l[k].Gone {
		want = api.ErrGone
	} else if mayMore(in(k, api.Nest), l[k]) {
		want = api.ErrSecret
	}
	if e != want || want != api.OK && got != nil {
		t.Fatalf("%+v: into %d: %+v, errno %d, want %d", l, k, got, e, want)
	}
	if want != api.OK {
		return
	}
	last := got[len(l)]
	if len(got) != len(l)+1 || !slices.Equal(got[:len(l)], l) || last.Parent != k || last.Origin != api.MaxOrigin || last.Turn != 0 || last.Gone || !fit(got) {
		t.Fatalf("%+v: into %d: %+v", l, k, got)
	}
	for _, what := range []int{api.Script, api.Post, api.Nest} {
		if both := may&what != 0 && l[k].May&what != 0; both != (last.May&what != 0) || last.May > api.All {
			t.Fatalf("%+v: into %d, may %d: %+v", l, k, may, last)
		}
	}
	c.attached++
}

// TestAllSmall: all frames of up to three, whatever they may, and all of four and five that may one of few things.
func TestAllSmall(t *testing.T) {
	all := []int{0, 1, 2, 3, 4, 5, 6, 7}
	var c tally
	for _, lists := range [][][]api.Frame{allFrames(0, all), allFrames(1, all), allFrames(2, all), allFrames(3, all), allFrames(4, []int{0, api.Nest, api.All}), allFrames(5, []int{api.Nest})} {
		for _, l := range lists {
			if !c.holdCheck(t, l) {
				continue
			}
			for k := range l {
				c.holdAsk(t, l, k)
				for _, may := range all {
					c.holdAttach(t, l, k, may)
				}
			}
		}
	}
	if c.right < 1000 || c.wrong < 1000 || c.attached < 1000 || c.discarded < 1000 || c.gone < 1000 {
		t.Errorf("%+v: too few", c)
	}
}

// TestGrown: however frames are attached and discarded, they stay right, and none may ever more than one that it is in, nor comes back.
func TestGrown(t *testing.T) {
	full := 0
	for turn := range 2000 {
		next := func(below int) int {
			turn = (turn*75 + 74) % 65537
			return turn % below
		}
		l := of(first(api.Nest | next(api.All+1)))
		for range 20 {
			grown, e := frame.Attach(l, next(len(l)), next(api.MaxOrigin+1), next(api.All+1)|api.Nest)
			if next(6) == 0 {
				grown, e = frame.Discard(l, next(len(l)))
			}
			if e != api.OK {
				continue
			}
			for k, f := range l {
				if f.Gone && !grown[k].Gone || f.May != grown[k].May || f.Parent != grown[k].Parent {
					t.Fatalf("%+v became %+v", l, grown)
				}
			}
			if l = grown; frame.Check(l) != api.OK || !fit(l) {
				t.Fatalf("%+v isn't right", l)
			}
		}
		if len(l) == api.MaxFrames {
			full++
		}
	}
	if full < 100 {
		t.Errorf("%d are full: too few", full)
	}
}

// TestWild: no call panics, and each ends, whatever it is given; what Check says, the others say; and the same call answers the same.
func TestWild(t *testing.T) {
	wild := []int{math.MinInt, -2, -1, 0, 1, 2, 7, 8, math.MaxInt}
	for _, a := range wild {
		for _, b := range wild {
			for _, n := range wild {
				holdWild(t, of(api.Frame{Parent: a, May: b, Turn: n}), wild)
				holdWild(t, of(in(-1, a), in(b, n), gone(in(n, 0))), wild)
				holdWild(t, of(in(a, api.All), in(b, api.All), in(n, 0)), wild)
			}
		}
	}
	// Frames in rings, and in a row that is far too long.
	for _, l := range [][]api.Frame{of(in(0, 0)), of(in(1, 0), in(0, 0)), of(in(2, 7), in(0, 7), in(1, 7)), chain(100000, 7)} {
		holdWild(t, l, wild)
	}
}

func holdWild(t *testing.T, l []api.Frame, wild []int) {
	t.Helper()
	was := slices.Clone(l)
	want := frame.Check(l)
	for _, k := range wild {
		attached, e := frame.Attach(l, k, 1, 1)
		again, f := frame.Attach(l, k, 1, 1)
		discarded, g := frame.Discard(l, k)
		length, h := frame.Length(l, k)
		if e != f || !slices.Equal(attached, again) || want != api.OK && (e != want || g != want || h != want || attached != nil || discarded != nil || length != 0) {
			t.Fatalf("of %+v: %d: errnos %d, %d, %d, %d, want %d", l, k, e, f, g, h, want)
		}
		there := k >= 0 && k < len(l)
		if (frame.Holds(l, k) == api.ErrWho) == there || frame.Within(l, k, k) && !there {
			t.Fatalf("of %+v: is there %d?", l, k)
		}
		for _, top := range wild {
			if frame.Within(l, k, top) && !there {
				t.Fatalf("of %+v: %d, which is none, is within %d", l, k, top)
			}
		}
	}
	if !slices.Equal(l, was) {
		t.Fatalf("%+v became %+v", was, l)
	}
}
