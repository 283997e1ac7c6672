package query_test

import (
	"math"
	"slices"
	"testing"

	"glasshouse/api"
	"glasshouse/query"
	"glasshouse/store"
)

const whatever = api.Whatever

// spot says of a node its tag, its mark, and whose child it is (-1: nobody's).
type spot struct{ tag, mark, parent int }

// planted is a store of such nodes, each of the first use of its place; Kids are in the order of their places.
func planted(spots ...spot) api.Store {
	s := api.Store{Nodes: make([]api.Node, len(spots))}
	for k, p := range spots {
		s.Nodes[k] = api.Node{Used: true, Uses: 1, Tag: p.tag, Mark: p.mark, Parent: p.parent, Host: -1}
	}
	for k, p := range spots {
		if p.parent >= 0 && p.parent < len(spots) {
			s.Nodes[p.parent].Kids = append(s.Nodes[p.parent].Kids, k)
		}
	}
	return s
}

// garden has the nodes 0 to 3 in a line, 4 beside 2 with 5 under it, the root 6 of 1 with 7 under it, and 8, which is gone.
func garden() api.Store {
	s := planted(
		spot{1, 10, -1},
		spot{2, 10, 0},
		spot{3, 20, 1},
		spot{2, 30, 2},
		spot{3, -10, 1},
		spot{2, 0, 4},
		spot{5, 10, -1},
		spot{2, 10, 6},
		spot{0, 0, -1},
	)
	s.Nodes[6].Host = 1
	s.Nodes[6].Closed = true
	s.Nodes[8].Used = false
	return s
}

// on is a hand on what is in a place that was used once.
func on(place int) api.Hand { return api.Hand{Place: place, Use: 1} }

// tag, near: tests of a tag alone, the second one Near.
func tag(n int) api.Test  { return api.Test{Tag: n, Mark: whatever} }
func near(n int) api.Test { return api.Test{Tag: n, Mark: whatever, Near: true} }

// mark is a test of a mark alone.
func mark(n int) api.Test { return api.Test{Tag: whatever, Mark: n} }

// ask is a query.
func ask(tests ...api.Test) []api.Test { return tests }

// wrongQuery is a query with a fault, and what Check says of it.
type wrongQuery struct {
	q    []api.Test
	want api.Errno
}

// wrongQueries have each fault, and of two the one that is told first.
func wrongQueries() map[string]wrongQuery {
	return map[string]wrongQuery{
		"nil":                                         {nil, api.ErrMany},
		"no tests":                                    {ask(), api.ErrMany},
		"one too many":                                {make([]api.Test, api.MaxTests+1), api.ErrMany},
		"too many, with all faults":                   {slices.Repeat(ask(near(-1)), api.MaxTests+1), api.ErrMany},
		"a tag below 0":                               {ask(tag(-1)), api.ErrRange},
		"a tag above all":                             {ask(tag(api.MaxTag + 1)), api.ErrRange},
		"a tag that is a mark":                        {ask(tag(api.MaxValue)), api.ErrRange},
		"a tag right below Whatever":                  {ask(tag(whatever - 1)), api.ErrRange},
		"a tag right above Whatever":                  {ask(tag(whatever + 1)), api.ErrRange},
		"the least tag":                               {ask(tag(math.MinInt)), api.ErrRange},
		"the greatest tag":                            {ask(tag(math.MaxInt)), api.ErrRange},
		"a mark above all":                            {ask(mark(api.MaxValue + 1)), api.ErrRange},
		"a mark below all, and Whatever":              {ask(mark(whatever - 1)), api.ErrRange},
		"the least mark":                              {ask(mark(math.MinInt)), api.ErrRange},
		"the greatest mark":                           {ask(mark(math.MaxInt)), api.ErrRange},
		"a wrong tag last":                            {ask(tag(0), tag(0), tag(-1)), api.ErrRange},
		"a wrong mark in between":                     {ask(tag(0), mark(whatever-1), tag(0)), api.ErrRange},
		"the first one Near":                          {ask(near(0)), api.ErrForm},
		"the first one of some Near":                  {ask(near(0), tag(0)), api.ErrForm},
		"all of them Near":                            {slices.Repeat(ask(near(0)), api.MaxTests), api.ErrForm},
		"the first one Near, of a wrong tag":          {ask(near(-1)), api.ErrRange},
		"the first one Near, of a wrong mark":         {ask(api.Test{Tag: 0, Mark: whatever - 1, Near: true}), api.ErrRange},
		"the first one Near, the next of a wrong tag": {ask(near(0), tag(-1)), api.ErrForm},
	}
}

func TestCheckWrong(t *testing.T) {
	for what, c := range wrongQueries() {
		if got := query.Check(c.q); got != c.want {
			t.Errorf("%s: errno %d, want %d", what, got, c.want)
		}
	}
}

func TestCheckRight(t *testing.T) {
	for what, q := range map[string][]api.Test{
		"one test":            ask(tag(7)),
		"the zero test":       ask(api.Test{}),
		"the tag 0":           ask(tag(0)),
		"the greatest tag":    ask(tag(api.MaxTag)),
		"the least mark":      ask(mark(-api.MaxValue)),
		"the greatest mark":   ask(mark(api.MaxValue)),
		"whatever":            ask(api.Test{Tag: whatever, Mark: whatever}),
		"the second one Near": ask(tag(1), near(2)),
		"as many as may be":   append(ask(tag(1)), slices.Repeat(ask(near(whatever)), api.MaxTests-1)...),
	} {
		if got := query.Check(q); got != api.OK {
			t.Errorf("%s: errno %d", what, got)
		}
	}
}

// wrongHands hold nothing in the garden.
func wrongHands() map[api.Hand]api.Errno {
	return map[api.Hand]api.Errno{
		{Place: -1, Use: 1}:              api.ErrWho,
		{Place: 9, Use: 1}:               api.ErrWho,
		{Place: math.MaxInt, Use: 1}:     api.ErrWho,
		{Place: math.MinInt, Use: 1}:     api.ErrWho,
		{Place: 0, Use: 0}:               api.ErrWho,
		{Place: 0, Use: 2}:               api.ErrWho,
		{Place: 8, Use: 2}:               api.ErrWho,
		{Place: 8, Use: 1}:               api.ErrGone,
		{Place: 0, Use: math.MinInt}:     api.ErrWho,
		{Place: 1, Use: math.MaxInt}:     api.ErrWho,
		{Place: 7, Use: api.MaxUses + 1}: api.ErrWho,
	}
}

// wantFits, wantFound: what Fits and Find are to answer.
func wantFits(t *testing.T, what string, s api.Store, h api.Hand, q []api.Test, want bool, wantE api.Errno) {
	t.Helper()
	if got, e := query.Fits(s, h, q); got != want || e != wantE {
		t.Errorf("%s: Fits answers %t, errno %d, want %t, %d", what, got, e, want, wantE)
	}
}

func wantFound(t *testing.T, what string, s api.Store, h api.Hand, q []api.Test, want []int, wantE api.Errno) {
	t.Helper()
	got, e := query.Find(s, h, q)
	if !slices.Equal(got, want) || e != wantE || e != api.OK && got != nil {
		t.Errorf("%s: Find answers %v, errno %d, want %v, %d", what, got, e, want, wantE)
	}
}

// TestWrongQueries: Check's error, of a hand that holds.
func TestWrongQueries(t *testing.T) {
	for what, c := range wrongQueries() {
		for _, place := range []int{0, 3, 6} {
			wantFits(t, what, garden(), on(place), c.q, false, c.want)
			wantFound(t, what, garden(), on(place), c.q, nil, c.want)
		}
	}
}

// TestWrongHands: what the hand has wrong is told ahead of what the query has.
func TestWrongHands(t *testing.T) {
	for h, want := range wrongHands() {
		for what, c := range wrongQueries() {
			wantFits(t, what, garden(), h, c.q, false, want)
			wantFound(t, what, garden(), h, c.q, nil, want)
		}
		wantFits(t, "a right query", garden(), h, ask(tag(whatever)), false, want)
		wantFound(t, "a right query", garden(), h, ask(tag(whatever)), nil, want)
	}
	wantFits(t, "no places", api.Store{}, on(0), nil, false, api.ErrWho)
	wantFound(t, "no places", api.Store{}, on(0), nil, nil, api.ErrWho)
}

// TestWrongStores: what is wrong with the store is told ahead of all else.
func TestWrongStores(t *testing.T) {
	changed := func(place int, change func(n *api.Node)) api.Store {
		s := garden()
		change(&s.Nodes[place])
		return s
	}
	for _, c := range []struct {
		what string
		s    api.Store
		want api.Errno
	}{
		{"too many places", planted(make([]spot, api.MaxNodes+1)...), api.ErrMany},
		{"a tag that may not be", changed(5, func(n *api.Node) { n.Tag = -1 }), api.ErrRange},
		{"a child far away", changed(3, func(n *api.Node) { n.Kids = []int{50} }), api.ErrWho},
		{"closed, and no root", changed(5, func(n *api.Node) { n.Closed = true }), api.ErrForm},
		{"a child that is its own", changed(3, func(n *api.Node) { n.Kids = []int{3} }), api.ErrTree},
	} {
		if e := store.Check(c.s); e != c.want {
			t.Fatalf("%s: Check answers %d", c.what, e)
		}
		for _, h := range []api.Hand{on(0), on(5), on(8), on(99), {}} {
			for what, q := range map[string][]api.Test{"a right query": ask(tag(whatever)), "no query": nil, "a wrong query": ask(near(-1))} {
				wantFound(t, c.what+", "+what, c.s, h, q, nil, c.want)
				wantFits(t, c.what+", "+what, c.s, h, q, false, c.want)
			}
		}
	}
}

// TestQueries: which nodes of the garden a query is so of, and what is found under some.
func TestQueries(t *testing.T) {
	all := []int{0, 1, 2, 3, 4, 5, 6, 7}
	for _, c := range []struct {
		what               string
		q                  []api.Test
		so                 []int // which of all nodes
		at0, at1, at6, at2 []int // what is found under these
	}{
		{"whatever", ask(tag(whatever)), all, []int{1, 2, 3, 4, 5}, []int{2, 3, 4, 5}, []int{7}, []int{3}},
		{"a tag", ask(tag(2)), []int{1, 3, 5, 7}, []int{1, 3, 5}, []int{3, 5}, []int{7}, []int{3}},
		{"a tag of one alone", ask(tag(1)), []int{0}, nil, nil, nil, nil},
		{"a tag of none", ask(tag(99)), nil, nil, nil, nil, nil},
		{"the tag of what is gone", ask(tag(0)), nil, nil, nil, nil, nil},
		{"a mark", ask(mark(10)), []int{0, 1, 6, 7}, []int{1}, nil, []int{7}, nil},
		{"a mark below 0", ask(mark(-10)), []int{4}, []int{4}, []int{4}, nil, nil},
		{"the mark 0", ask(mark(0)), []int{5}, []int{5}, []int{5}, nil, nil},
		{"a tag and a mark", ask(api.Test{Tag: 2, Mark: 10}), []int{1, 7}, []int{1}, nil, []int{7}, nil},
		{"a tag, and another one's mark", ask(api.Test{Tag: 1, Mark: 20}), nil, nil, nil, nil, nil},
		{"under something", ask(tag(whatever), tag(whatever)), []int{1, 2, 3, 4, 5, 7}, []int{1, 2, 3, 4, 5}, []int{2, 3, 4, 5}, []int{7}, []int{3}},
		{"right under something", ask(tag(whatever), near(whatever)), []int{1, 2, 3, 4, 5, 7}, []int{1, 2, 3, 4, 5}, []int{2, 3, 4, 5}, []int{7}, []int{3}},
		{"right under 1", ask(tag(1), near(whatever)), []int{1}, []int{1}, nil, nil, nil},
		{"at any step under 1", ask(tag(1), tag(whatever)), []int{1, 2, 3, 4, 5}, []int{1, 2, 3, 4, 5}, []int{2, 3, 4, 5}, nil, []int{3}},
		{"not under itself", ask(tag(1), tag(1)), nil, nil, nil, nil, nil},
		{"not right under itself", ask(tag(3), near(3)), nil, nil, nil, nil, nil},
		{"2 under 2", ask(tag(2), tag(2)), []int{3, 5}, []int{3, 5}, []int{3, 5}, nil, []int{3}},
		{"2 right under 2", ask(tag(2), near(2)), nil, nil, nil, nil, nil},
		{"a root's child", ask(tag(5), near(2)), []int{7}, nil, nil, []int{7}, nil},
		{"a root is nobody's child", ask(tag(whatever), tag(5)), nil, nil, nil, nil, nil},
		{"nothing in a root is under its host", ask(tag(2), tag(5), near(2)), nil, nil, nil, nil, nil},
		{"three in a line", ask(tag(1), near(2), near(3)), []int{2, 4}, []int{2, 4}, []int{2, 4}, nil, nil},
		{"four in a line", ask(tag(1), near(2), near(3), near(2)), []int{3, 5}, []int{3, 5}, []int{3, 5}, nil, []int{3}},
		{"four in a line, of a mark", ask(tag(1), near(2), api.Test{Tag: whatever, Mark: 20, Near: true}, near(2)), []int{3}, []int{3}, []int{3}, nil, []int{3}},
		{"one too many in a line", ask(tag(whatever), near(whatever), near(whatever), near(whatever), near(whatever)), nil, nil, nil, nil, nil},
		{"one too many above", ask(tag(whatever), tag(whatever), tag(whatever), tag(whatever), tag(whatever)), nil, nil, nil, nil, nil},
		{"the far end of a line", ask(tag(1), tag(2), tag(2)), []int{3, 5}, []int{3, 5}, []int{3, 5}, nil, []int{3}},
		{"near, then far", ask(tag(1), near(2), tag(2)), []int{3, 5}, []int{3, 5}, []int{3, 5}, nil, []int{3}},
		{"far, then near", ask(tag(1), tag(3), near(2)), []int{3, 5}, []int{3, 5}, []int{3, 5}, nil, []int{3}},
		{"far, then near, one too far", ask(tag(1), tag(2), near(2)), nil, nil, nil, nil, nil},
		{"in the wrong order", ask(tag(2), tag(1)), nil, nil, nil, nil, nil},
	} {
		for _, place := range all {
			wantFits(t, c.what, garden(), on(place), c.q, slices.Contains(c.so, place), api.OK)
		}
		wantFound(t, c.what+", under 0", garden(), on(0), c.q, c.at0, api.OK)
		wantFound(t, c.what+", under 1", garden(), on(1), c.q, c.at1, api.OK)
		wantFound(t, c.what+", under 6", garden(), on(6), c.q, c.at6, api.OK)
		wantFound(t, c.what+", under 2", garden(), on(2), c.q, c.at2, api.OK)
		wantFound(t, c.what+", under what has nothing", garden(), on(5), c.q, nil, api.OK)
	}
}

// TestTheNearestIsNotTheOnlyOne: of several nodes above that a test is so of, any may be the one under which the rest is so.
func TestTheNearestIsNotTheOnlyOne(t *testing.T) {
	s := planted(spot{1, 0, -1}, spot{2, 0, 0}, spot{3, 0, 1}, spot{2, 0, 2}, spot{4, 0, 3})
	wantFits(t, "the farther one", s, on(4), ask(tag(1), near(2), tag(4)), true, api.OK)
	wantFits(t, "the nearer one", s, on(4), ask(tag(3), near(2), tag(4)), true, api.OK)
	wantFits(t, "the nearest alone", s, on(4), ask(tag(1), near(2), near(4)), false, api.OK)
	wantFits(t, "both", s, on(4), ask(tag(1), near(2), near(3), near(2), near(4)), true, api.OK)
	wantFits(t, "both, far", s, on(4), ask(tag(2), tag(2), tag(4)), true, api.OK)
	wantFits(t, "one of them twice", s, on(4), ask(tag(2), tag(2), tag(2), tag(4)), false, api.OK)
}

// TestFoundInOrder: as the Kids stand, not as the places do.
func TestFoundInOrder(t *testing.T) {
	s := planted(spot{7, 0, 3}, spot{7, 1, 3}, spot{7, 2, 1}, spot{7, 3, -1}, spot{7, 4, 3})
	s.Nodes[3].Kids = []int{4, 1, 0}
	wantFound(t, "all", s, on(3), ask(tag(7)), []int{4, 1, 2, 0}, api.OK)
	wantFound(t, "right under it", s, on(3), ask(mark(3), near(7)), []int{4, 1, 0}, api.OK)
}

// TestFullStore: a line of as many nodes as may be, with as many tests as may be.
func TestFullStore(t *testing.T) {
	spots := []spot{{1, 0, -1}}
	for len(spots) < api.MaxNodes {
		spots = append(spots, spot{2, 0, len(spots) - 1})
	}
	last := api.MaxNodes - 1
	s := planted(spots...)
	line := func(first api.Test, next api.Test) []api.Test {
		return append(ask(first), slices.Repeat(ask(next), api.MaxTests-1)...)
	}
	wantFound(t, "near", s, on(0), line(tag(1), near(2)), []int{api.MaxTests - 1}, api.OK)
	wantFits(t, "far", s, on(last), line(tag(1), tag(2)), true, api.OK)
	wantFits(t, "near, too far", s, on(last), line(tag(1), near(2)), false, api.OK)
	wantFits(t, "far, of none", s, on(last), line(tag(3), tag(2)), false, api.OK)
	found, e := query.Find(s, on(0), line(tag(1), tag(2)))
	if e != api.OK || len(found) != api.MaxNodes-api.MaxTests+1 || found[0] != api.MaxTests-1 {
		t.Errorf("far: %v, errno %d", found, e)
	}
}
