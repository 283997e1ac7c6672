package frame_test

import (
	"math"
	"slices"
	"testing"

	"glasshouse/api"
	"glasshouse/frame"
)

// first is a frame that is in none, and may so.
func first(may int) api.Frame { return api.Frame{Parent: -1, May: may} }

// in is a frame in another one, and may so.
func in(parent, may int) api.Frame { return api.Frame{Parent: parent, May: may} }

// gone is that frame, which isn't there any more.
func gone(f api.Frame) api.Frame {
	f.Gone = true
	return f
}

// of is a list of these frames.
func of(l ...api.Frame) []api.Frame { return l }

// chain is so many frames, each in the one ahead.
func chain(frames, may int) []api.Frame {
	l := make([]api.Frame, frames)
	for k := range l {
		l[k] = in(k-1, may)
	}
	return l
}

// house is one of right frames, of all kinds: 1 and 4 are in 0, 2 and 3 in 1, 5 in 4 and 6 in 5, of which 3 is gone, and so are 5 and 6.
func house() []api.Frame {
	return of(
		api.Frame{Parent: -1, Origin: 1, May: api.All, Turn: 3},
		api.Frame{Parent: 0, Origin: 2, May: api.Script | api.Nest},
		api.Frame{Parent: 1, Origin: api.MaxOrigin, May: api.Script, Turn: api.MaxTurns},
		api.Frame{Parent: 1, Origin: 1, Gone: true},
		api.Frame{Parent: 0, Origin: 4, May: api.All},
		api.Frame{Parent: 4, Origin: 5, May: api.Nest, Turn: 1, Gone: true},
		api.Frame{Parent: 5, Origin: 6, May: api.Nest, Gone: true},
	)
}

// wantFrames: these frames, and nothing is wrong.
func wantFrames(t *testing.T, what string, got []api.Frame, e api.Errno, want []api.Frame) {
	t.Helper()
	if e != api.OK || !slices.Equal(got, want) {
		t.Errorf("%s: %+v, errno %d, want %+v", what, got, e, want)
	}
}

// wantNone: that error, and nothing beside it.
func wantNone(t *testing.T, what string, got []api.Frame, e, want api.Errno) {
	t.Helper()
	if e != want || got != nil {
		t.Errorf("%s: %+v, errno %d, want errno %d", what, got, e, want)
	}
}

// wantWrong: Check says that error, and the others that Check say it ahead of all that is wrong with what else they are given.
func wantWrong(t *testing.T, what string, l []api.Frame, want api.Errno) {
	t.Helper()
	if e := frame.Check(l); e != want {
		t.Errorf("%s: Check answers %d, want %d", what, e, want)
	}
	for _, k := range []int{-1, 0, 1, len(l)} {
		for _, rest := range [][2]int{{0, 0}, {-1, -1}, {api.MaxOrigin + 1, api.All + 1}} {
			got, e := frame.Attach(l, k, rest[0], rest[1])
			wantNone(t, what+": Attach", got, e, want)
		}
		got, e := frame.Discard(l, k)
		wantNone(t, what+": Discard", got, e, want)
		if length, e := frame.Length(l, k); e != want || length != 0 {
			t.Errorf("%s: Length answers %d, errno %d, want errno %d", what, length, e, want)
		}
	}
}

func TestCheckRight(t *testing.T) {
	for what, l := range map[string][]api.Frame{
		"none":                         nil,
		"none, of an empty list":       {},
		"one that may nothing":         of(first(0)),
		"one that is gone":             of(gone(first(api.All))),
		"the most of all":              of(api.Frame{Parent: -1, Origin: api.MaxOrigin, May: api.All, Turn: api.MaxTurns}),
		"it may as much":               of(first(api.Post), in(0, api.Post)),
		"it may less":                  of(first(api.All), in(0, 0), in(0, api.Script|api.Post)),
		"in one that may not nest":     of(first(api.Script), in(0, api.Script)),
		"gone in one that isn't":       of(first(0), gone(in(0, 0))),
		"gone in one that is":          of(gone(first(0)), gone(in(0, 0))),
		"beside one that is gone":      of(first(0), gone(in(0, 0)), in(0, 0)),
		"its origin, and that of none": of(first(0), api.Frame{Origin: 3}),
		"as many as may be, in a row":  chain(api.MaxFrames, api.All),
		"as many as may be, side by side": append(of(first(0)),
			slices.Repeat(of(in(0, 0)), api.MaxFrames-1)...),
		"a house": house(),
	} {
		if e := frame.Check(l); e != api.OK {
			t.Errorf("%s: errno %d", what, e)
		}
	}
}

// TestCheckWho: a Parent that is none.
func TestCheckWho(t *testing.T) {
	for what, l := range map[string][]api.Frame{
		"the first one is in itself":        of(in(0, 0)),
		"the first one is in the next":      of(in(1, 0), in(0, 0)),
		"the first one is below none":       of(in(-2, 0)),
		"the first one, the greatest":       of(in(math.MaxInt, 0)),
		"the first one, the least":          of(in(math.MinInt, 0)),
		"another one is in none":            of(first(0), first(0)),
		"another one is in itself":          of(first(0), in(1, 0)),
		"another one is in the next":        of(first(0), in(2, 0), in(0, 0)),
		"two are in each other":             of(first(0), in(2, 0), in(1, 0)),
		"another one is below none":         of(first(0), in(-2, 0)),
		"another one, past all":             of(first(0), in(2, 0)),
		"another one, the greatest":         of(first(0), in(0, 0), in(math.MaxInt, 0)),
		"another one, the least":            of(first(0), in(0, 0), in(math.MinInt, 0)),
		"what is told ahead of its numbers": of(api.Frame{Parent: 0, Origin: -1, May: -1, Turn: -1}),
		"and ahead of what it may":          of(first(0), in(1, api.All)),
	} {
		wantWrong(t, what, l, api.ErrWho)
	}
}

// TestCheckRange: numbers that may not be, of the first frame, and of one in it.
func TestCheckRange(t *testing.T) {
	for what, f := range map[string]api.Frame{
		"an origin above all":   {Origin: api.MaxOrigin + 1},
		"an origin below all":   {Origin: -1},
		"the greatest origin":   {Origin: math.MaxInt},
		"the least origin":      {Origin: math.MinInt},
		"more than all":         {May: api.All + 1},
		"less than nothing":     {May: -1},
		"all bits but the low":  {May: ^api.All},
		"the greatest may":      {May: math.MaxInt},
		"the least may":         {May: math.MinInt},
		"a turn above all":      {Turn: api.MaxTurns + 1},
		"a turn below all":      {Turn: -1},
		"the greatest turn":     {Turn: math.MaxInt},
		"the least turn":        {Turn: math.MinInt},
		"of one that is gone":   {Turn: -1, Gone: true},
		"all of these":          {Origin: -1, May: -1, Turn: -1},
		"a turn, and what may":  {May: api.All, Turn: -1},
		"an origin, and so on":  {Origin: -1, May: api.All},
		"what no other one may": {May: api.All + 2},
	} {
		alone := f
		alone.Parent = -1
		wantWrong(t, what+", alone", of(alone), api.ErrRange)
		wantWrong(t, what+", in one that may nothing", of(first(0), f), api.ErrRange)
		wantWrong(t, what+", in one that is gone", of(gone(first(api.All)), f), api.ErrRange)
		wantWrong(t, what+", the last of all", append(chain(api.MaxFrames-1, 0), f), api.ErrRange)
	}
}

// TestCheckForm: frames that may what those that they are in may not, or are there in one that isn't.
func TestCheckForm(t *testing.T) {
	for what, l := range map[string][]api.Frame{
		"it may, that may nothing":      of(first(0), in(0, api.Script)),
		"it may another thing":          of(first(api.Script), in(0, api.Post)),
		"it may one thing more":         of(first(api.Script|api.Nest), in(0, api.All)),
		"a lesser number, a bit more":   of(first(api.Nest), in(0, api.Script|api.Post)),
		"the first may, its parent not": of(first(api.All), in(0, api.Script), in(1, api.Post)),
		"the last of as many":           append(chain(api.MaxFrames-1, api.Post), in(6, api.All)),
		"it is gone, and may more":      of(first(0), gone(in(0, api.Script))),
		"it is there, that is gone":     of(gone(first(0)), in(0, 0)),
		"it is there, in two gone":      of(gone(first(0)), gone(in(0, 0)), in(1, 0)),
		"it is there, the next is gone": of(first(0), gone(in(0, 0)), in(1, 0)),
		"it may more, that is gone":     of(gone(first(0)), in(0, api.Post)),
	} {
		wantWrong(t, what, l, api.ErrForm)
	}
}

// TestCheckOrder: how many there are is told first; then the frames one by one.
func TestCheckOrder(t *testing.T) {
	who, rough, form := in(9, 0), api.Frame{Origin: -1}, in(0, api.All)
	wantWrong(t, "one too many", chain(api.MaxFrames+1, 0), api.ErrMany)
	wantWrong(t, "far too many", slices.Repeat(of(who), 200000), api.ErrMany)
	wantWrong(t, "too many, of wrong numbers", slices.Repeat(of(rough), api.MaxFrames+1), api.ErrMany)
	wantWrong(t, "who, then range", of(first(0), who, rough), api.ErrWho)
	wantWrong(t, "who, then form", of(first(0), who, form), api.ErrWho)
	wantWrong(t, "range, then who", of(first(0), rough, who), api.ErrRange)
	wantWrong(t, "range, then form", of(first(0), rough, form), api.ErrRange)
	wantWrong(t, "form, then who", of(first(0), form, who), api.ErrForm)
	wantWrong(t, "form, then range", of(first(0), form, rough), api.ErrForm)
}

// TestHolds: it takes any frames, and doesn't Check them.
func TestHolds(t *testing.T) {
	wrong := of(api.Frame{Parent: 7, Origin: -1}, gone(in(-9, api.All)))
	for _, c := range []struct {
		what string
		l    []api.Frame
		k    int
		want api.Errno
	}{
		{"the first", house(), 0, api.OK},
		{"another one", house(), 4, api.OK},
		{"one that is gone", house(), 3, api.ErrGone},
		{"the last, which is gone", house(), 6, api.ErrGone},
		{"past all", house(), 7, api.ErrWho},
		{"below all", house(), -1, api.ErrWho},
		{"the greatest", house(), math.MaxInt, api.ErrWho},
		{"the least", house(), math.MinInt, api.ErrWho},
		{"of none", nil, 0, api.ErrWho},
		{"of none, below all", nil, -1, api.ErrWho},
		{"of wrong ones", wrong, 0, api.OK},
		{"of wrong ones, gone", wrong, 1, api.ErrGone},
		{"of wrong ones, past all", wrong, 2, api.ErrWho},
		{"of too many", chain(api.MaxFrames+1, api.All+1), api.MaxFrames, api.OK},
	} {
		if e := frame.Holds(c.l, c.k); e != c.want {
			t.Errorf("%s: errno %d, want %d", c.what, e, c.want)
		}
	}
}

func TestWithin(t *testing.T) {
	// Row by row of each k: the tops from 0 on that it is within.
	tops := [][]int{{0}, {0, 1}, {0, 1, 2}, {0, 1, 3}, {0, 4}, {0, 4, 5}, {0, 4, 5, 6}}
	for k, want := range tops {
		for top := -1; top <= len(tops); top++ {
			if got := frame.Within(house(), k, top); got != slices.Contains(want, top) {
				t.Errorf("%d within %d: %v", k, top, got)
			}
		}
	}
	long := chain(api.MaxFrames, 0)
	if last := api.MaxFrames - 1; !frame.Within(long, last, 0) || frame.Within(long, 0, last) || !frame.Within(long, last, last) {
		t.Error("the last of a row isn't in the first, or the first is in the last")
	}
}

// TestWithinNone: what is no frame is in none, not even in itself; and nothing is in it.
func TestWithinNone(t *testing.T) {
	nones := []int{math.MinInt, -2, -1, 7, 8, math.MaxInt}
	for _, none := range nones {
		for k := range house() {
			if frame.Within(house(), none, k) || frame.Within(house(), k, none) {
				t.Errorf("%d and %d: one is within the other", none, k)
			}
		}
		for _, other := range nones {
			if frame.Within(house(), none, other) {
				t.Errorf("%d is within %d", none, other)
			}
		}
		if frame.Within(nil, none, none) || frame.Within(nil, 0, none) || frame.Within(nil, none, 0) || frame.Within(nil, 0, 0) {
			t.Errorf("of no frames, with %d: one is within another", none)
		}
	}
}

func TestAttach(t *testing.T) {
	l, e := frame.Attach(of(first(api.All)), 0, 0, 0)
	wantFrames(t, "the least", l, e, of(first(api.All), in(0, 0)))
	l, e = frame.Attach(of(first(api.All)), 0, api.MaxOrigin, api.All)
	wantFrames(t, "the most", l, e, of(first(api.All), api.Frame{Origin: api.MaxOrigin, May: api.All}))
	l, e = frame.Attach(house(), 1, 7, api.Post|api.Script)
	wantFrames(t, "what both say", l, e, append(house(), api.Frame{Parent: 1, Origin: 7, May: api.Script}))
	l, e = frame.Attach(l[:7], 4, 2, api.Post|api.Nest)
	wantFrames(t, "the last that there is room for", l, e, append(house(), api.Frame{Parent: 4, Origin: 2, May: api.Post | api.Nest}))
	l, e = frame.Attach(of(first(api.Nest)), 0, 3, api.Script|api.Post)
	wantFrames(t, "neither of both", l, e, of(first(api.Nest), api.Frame{Origin: 3}))
	// It isn't as many turns on as the one that it is in.
	l, e = frame.Attach(of(api.Frame{Parent: -1, Origin: 5, May: api.All, Turn: 9}), 0, 6, api.Post)
	wantFrames(t, "its own turn", l, e, of(api.Frame{Parent: -1, Origin: 5, May: api.All, Turn: 9}, api.Frame{Origin: 6, May: api.Post}))
}

// TestAttachErrors: each error, and which of them is told first.
func TestAttachErrors(t *testing.T) {
	full := chain(api.MaxFrames, api.All)
	fullNoNest := chain(api.MaxFrames, api.Script)
	for _, c := range []struct {
		what                string
		l                   []api.Frame
		parent, origin, may int
		want                api.Errno
	}{
		{"into none", nil, 0, 0, 0, api.ErrWho},
		{"into nothing of none", nil, -1, 0, 0, api.ErrWho},
		{"below all", house(), -1, 0, 0, api.ErrWho},
		{"past all", house(), 7, 0, 0, api.ErrWho},
		{"the greatest parent", house(), math.MaxInt, 0, 0, api.ErrWho},
		{"the least parent", house(), math.MinInt, 0, 0, api.ErrWho},
		{"no parent, then all else", full, 8, -1, -1, api.ErrWho},
		{"gone", house(), 5, 0, 0, api.ErrGone},
		{"gone, then a wrong origin", house(), 5, -1, 0, api.ErrGone},
		{"gone, and may not nest", house(), 3, 0, 0, api.ErrGone},
		{"an origin above all", house(), 0, api.MaxOrigin + 1, 0, api.ErrRange},
		{"an origin below all", house(), 0, -1, 0, api.ErrRange},
		{"the greatest origin", house(), 0, math.MaxInt, 0, api.ErrRange},
		{"more than all", house(), 0, 0, api.All + 1, api.ErrRange},
		{"less than nothing", house(), 0, 0, -1, api.ErrRange},
		{"the least may", house(), 0, 0, math.MinInt, api.ErrRange},
		{"an origin, then may not nest", house(), 2, -1, 0, api.ErrRange},
		{"may, then may not nest", house(), 2, 0, -1, api.ErrRange},
		{"an origin, then full", full, 0, 10, 0, api.ErrRange},
		{"may not nest", house(), 2, 0, 0, api.ErrSecret},
		{"may all but nest", of(first(api.Script | api.Post)), 0, 1, api.All, api.ErrSecret},
		{"may nothing", of(first(0)), 0, 1, api.All, api.ErrSecret},
		{"may not nest, then full", fullNoNest, 0, 0, 0, api.ErrSecret},
		{"full", full, 0, 0, 0, api.ErrMany},
		{"full, into the last", full, 7, 9, api.All, api.ErrMany},
	} {
		got, e := frame.Attach(c.l, c.parent, c.origin, c.may)
		wantNone(t, c.what, got, e, c.want)
	}
	// Room isn't made by those that are gone.
	thinned, e := frame.Discard(full, 1)
	if e != api.OK {
		t.Fatal(e)
	}
	got, e := frame.Attach(thinned, 0, 0, 0)
	wantNone(t, "full of those that are gone", got, e, api.ErrMany)
}

func TestDiscard(t *testing.T) {
	for k, want := range map[int][]int{0: {0, 1, 2, 3, 4, 5, 6}, 1: {1, 2, 3, 5, 6}, 2: {2, 3, 5, 6}, 4: {3, 4, 5, 6}} {
		l := house()
		for _, at := range want {
			l[at].Gone = true
		}
		got, e := frame.Discard(house(), k)
		wantFrames(t, "discard", got, e, l)
		// What it says of the others stays right, and what is gone isn't gone again.
		if e := frame.Check(got); e != api.OK {
			t.Errorf("without %d: errno %d", k, e)
		}
		got, e = frame.Discard(got, k)
		wantNone(t, "discard again", got, e, api.ErrGone)
	}
	for k, want := range map[int]api.Errno{3: api.ErrGone, 5: api.ErrGone, 6: api.ErrGone, 7: api.ErrWho, -1: api.ErrWho, math.MaxInt: api.ErrWho, math.MinInt: api.ErrWho} {
		got, e := frame.Discard(house(), k)
		wantNone(t, "discard of what isn't there", got, e, want)
	}
	got, e := frame.Discard(nil, 0)
	wantNone(t, "discard of none", got, e, api.ErrWho)
	long := chain(api.MaxFrames, api.All)
	want := chain(api.MaxFrames, api.All)
	for k := 1; k < len(want); k++ {
		want[k].Gone = true
	}
	got, e = frame.Discard(long, 1)
	wantFrames(t, "all in a row but the first", got, e, want)
}

func TestLength(t *testing.T) {
	for k, want := range map[int]int{0: 2, 1: 1, 2: 0, 4: 0} {
		if got, e := frame.Length(house(), k); e != api.OK || got != want {
			t.Errorf("of %d: %d, errno %d, want %d", k, got, e, want)
		}
	}
	for k, want := range map[int]api.Errno{3: api.ErrGone, 5: api.ErrGone, 6: api.ErrGone, 7: api.ErrWho, -1: api.ErrWho, math.MaxInt: api.ErrWho, math.MinInt: api.ErrWho} {
		if got, e := frame.Length(house(), k); e != want || got != 0 {
			t.Errorf("of %d: %d, errno %d, want errno %d", k, got, e, want)
		}
	}
	if got, e := frame.Length(nil, -1); e != api.ErrWho || got != 0 {
		t.Errorf("of none: %d, errno %d", got, e)
	}
	full := append(of(first(0)), slices.Repeat(of(in(0, 0)), api.MaxFrames-1)...)
	if got, e := frame.Length(full, 0); e != api.OK || got != api.MaxFrames-1 {
		t.Errorf("of as many as may be: %d, errno %d", got, e)
	}
}

// TestNothingIsSharedOrChanged: what was handed in stays as it was, and the spare room behind it, whatever is done to the answers.
func TestNothingIsSharedOrChanged(t *testing.T) {
	spare := api.Frame{Parent: 70, Origin: 71, May: 72, Turn: 73, Gone: true}
	room := append(house(), spare, spare, spare)
	want := slices.Clone(room)
	l := room[:len(house())]
	for range 2 {
		attached, e := frame.Attach(l, 0, 1, api.Script)
		wantFrames(t, "attached", attached, e, append(house(), api.Frame{Origin: 1, May: api.Script}))
		discarded, e := frame.Discard(l, 0)
		if e != api.OK || len(discarded) != len(l) {
			t.Fatalf("%+v, errno %d", discarded, e)
		}
		frame.Attach(l, 2, 0, 0)
		frame.Discard(l, 3)
		frame.Length(l, 0)
		frame.Within(l, 6, 0)
		clear(attached[:cap(attached)])
		clear(discarded[:cap(discarded)])
	}
	if !slices.Equal(room, want) {
		t.Errorf("what was handed in is %+v, want %+v", room, want)
	}
}
