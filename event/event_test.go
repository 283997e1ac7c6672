package event_test

import (
	"math"
	"reflect"
	"slices"
	"testing"

	"glasshouse/api"
	"glasshouse/event"
	"glasshouse/store"
)

// alone is a node that stands nowhere, of the first use of its place.
func alone() api.Node { return api.Node{Used: true, Uses: 1, Parent: -1, Host: -1} }

// gone is a place that was used once, and isn't any more.
func gone() api.Node { return api.Node{Uses: 1, Parent: -1, Host: -1} }

// child is a node whose Parent is at this place.
func child(parent int) api.Node {
	n := alone()
	n.Parent = parent
	return n
}

// root is one of the node at this place.
func root(host int, closed bool) api.Node {
	n := alone()
	n.Host, n.Closed = host, closed
	return n
}

// of is a store of these nodes; Kids are in the order of their places.
func of(nodes ...api.Node) api.Store {
	for k, n := range nodes {
		if n.Parent >= 0 && n.Parent < len(nodes) {
			nodes[n.Parent].Kids = append(nodes[n.Parent].Kids, k)
		}
	}
	return api.Store{Nodes: nodes}
}

// on is a hand on what is in a place that was used once.
func on(place int) api.Hand { return api.Hand{Place: place, Use: 1} }

// These are the places of ship.
const (
	sea    = iota // the top
	hull          // a child of sea: it has a closed root
	hold          // that root
	crate         // a child of hold: it has an open root
	lining        // that root
	jewel         // a child of lining
	deck          // a child of hull: it stands beside the root, not in it
	gull          // a node that stands nowhere
	wreck         // a node that is gone
	shipPlaces
)

// ship is a store with a root in a root.
func ship() api.Store {
	return of(alone(), child(sea), root(hull, true), child(hold), root(crate, false), child(lining), child(hull), alone(), gone())
}

// down is a hearer at a place on the way down, up one on the way up.
func down(place, id int) api.Hearer { return api.Hearer{Place: place, Down: true, ID: id} }
func up(place, id int) api.Hearer   { return api.Hearer{Place: place, ID: id} }

func once(h api.Hearer) api.Hearer {
	h.Once = true
	return h
}

func stops(h api.Hearer) api.Hearer {
	h.Stops = true
	return h
}

// wantCalls: these calls, and these left, and nothing is wrong; it answers who is left.
func wantCalls(t *testing.T, what string, l []api.Hearer, target int, wantLeft []api.Hearer, want ...api.Call) []api.Hearer {
	t.Helper()
	calls, left, e := event.Dispatch(ship(), l, on(target))
	if e != api.OK || !slices.Equal(calls, want) {
		t.Errorf("%s: calls %+v, errno %d, want %+v", what, calls, e, want)
	}
	if !slices.Equal(left, wantLeft) {
		t.Errorf("%s: left %+v, want %+v", what, left, wantLeft)
	}
	return left
}

// wantHeard: those of these IDs hear it, in this order.
func wantHeard(t *testing.T, what string, l []api.Hearer, target int, want ...int) {
	t.Helper()
	calls, _, e := event.Dispatch(ship(), l, on(target))
	var ids []int
	for _, c := range calls {
		ids = append(ids, c.ID)
	}
	if e != api.OK || !slices.Equal(ids, want) {
		t.Errorf("%s: heard by %v, errno %d, want %v", what, ids, e, want)
	}
}

// wantWrong: that error, and beside it nothing.
func wantWrong(t *testing.T, what string, s api.Store, l []api.Hearer, target api.Hand, want api.Errno) {
	t.Helper()
	calls, left, e := event.Dispatch(s, l, target)
	if e != want {
		t.Errorf("%s: errno %d, want %d", what, e, want)
	}
	if calls != nil || left != nil {
		t.Errorf("%s: %+v, %+v beside an error", what, calls, left)
	}
}

func TestShipIsRight(t *testing.T) {
	if e := store.Check(ship()); e != api.OK {
		t.Fatalf("Check answers %d", e)
	}
}

// many are so many hearers at the first place, each of an ID of its own.
func many(n int) []api.Hearer {
	l := make([]api.Hearer, n)
	for k := range l {
		l[k] = up(0, k)
	}
	return l
}

func TestCheck(t *testing.T) {
	for _, c := range []struct {
		what   string
		l      []api.Hearer
		places int
		want   api.Errno
	}{
		{"nobody, nowhere", nil, 0, api.OK},
		{"nobody, below nowhere", []api.Hearer{}, -1, api.OK},
		{"one", []api.Hearer{up(0, 0)}, 1, api.OK},
		{"the last place", []api.Hearer{up(4, 1)}, 5, api.OK},
		{"past the last place", []api.Hearer{up(5, 1)}, 5, api.ErrWho},
		{"no places", []api.Hearer{up(0, 1)}, 0, api.ErrWho},
		{"less than no places", []api.Hearer{up(0, 1)}, -1, api.ErrWho},
		{"the least number of places", []api.Hearer{up(0, 1)}, math.MinInt, api.ErrWho},
		{"a place below all", []api.Hearer{down(-1, 1)}, 5, api.ErrWho},
		{"the least place", []api.Hearer{down(math.MinInt, 1)}, math.MaxInt, api.ErrWho},
		{"the last but one of the most places", []api.Hearer{down(math.MaxInt-1, 1)}, math.MaxInt, api.OK},
		{"the last of the most places", []api.Hearer{down(math.MaxInt, 1)}, math.MaxInt, api.ErrWho},
		{"any ID", []api.Hearer{up(0, math.MinInt), up(0, -1), up(0, 0), up(0, math.MaxInt)}, 1, api.OK},
		{"an ID twice", []api.Hearer{up(0, 7), up(0, 7)}, 1, api.ErrForm},
		{"the ID 0 twice", []api.Hearer{up(0, 0), up(0, 0)}, 1, api.ErrForm},
		{"an ID twice, of what else differs", []api.Hearer{up(0, 7), up(0, 8), stops(once(down(1, 7)))}, 2, api.ErrForm},
		{"alike but for the ID", []api.Hearer{stops(once(down(1, 7))), stops(once(down(1, 8)))}, 2, api.OK},
		{"an ID twice, at no place", []api.Hearer{up(0, 7), up(1, 7)}, 1, api.ErrWho},
		{"an ID twice, then no place", []api.Hearer{up(0, 7), up(0, 7), up(1, 8)}, 1, api.ErrForm},
		{"no place, then an ID twice", []api.Hearer{up(0, 7), up(1, 8), up(0, 7)}, 1, api.ErrWho},
		{"as many as may be", many(api.MaxHearers), 1, api.OK},
		{"one too many", many(api.MaxHearers + 1), 1, api.ErrMany},
		{"too many, at no place", many(api.MaxHearers + 1), 0, api.ErrMany},
		{"too many, of one ID", make([]api.Hearer, api.MaxHearers+1), 1, api.ErrMany},
		{"far too many", many(200000), 1, api.ErrMany},
	} {
		if got := event.Check(c.l, c.places); got != c.want {
			t.Errorf("%s: errno %d, want %d", c.what, got, c.want)
		}
	}
}

// TestWrongHands: what Find says, ahead of what is wrong with the hearers.
func TestWrongHands(t *testing.T) {
	for what, c := range map[string]struct {
		h    api.Hand
		want api.Errno
	}{
		"gone":                       {on(wreck), api.ErrGone},
		"no such place":              {on(shipPlaces), api.ErrWho},
		"below all places":           {on(-1), api.ErrWho},
		"use 0":                      {api.Hand{Place: jewel}, api.ErrWho},
		"a use below 0":              {api.Hand{Place: jewel, Use: -1}, api.ErrWho},
		"a use that is yet to come":  {api.Hand{Place: jewel, Use: 2}, api.ErrWho},
		"a use to come, of the gone": {api.Hand{Place: wreck, Use: 2}, api.ErrWho},
	} {
		for _, l := range [][]api.Hearer{nil, {up(sea, 1)}, {up(sea, 1), up(sea, 1)}, {up(shipPlaces, 1)}, many(api.MaxHearers + 1)} {
			wantWrong(t, what, ship(), l, c.h, c.want)
		}
	}
	wantWrong(t, "no places", api.Store{}, nil, api.Hand{}, api.ErrWho)
	again := ship()
	again.Nodes[jewel].Uses = 2
	wantWrong(t, "a hand of an earlier use", again, nil, on(jewel), api.ErrGone)
}

// TestWrongHearers: what Check says, of all places that there are, in use or not, heard by the event or not.
func TestWrongHearers(t *testing.T) {
	for _, target := range []int{sea, jewel, gull} {
		wantWrong(t, "no such place", ship(), []api.Hearer{up(shipPlaces, 1)}, on(target), api.ErrWho)
		wantWrong(t, "below all places", ship(), []api.Hearer{stops(down(sea, 1)), up(-1, 2)}, on(target), api.ErrWho)
		wantWrong(t, "an ID twice", ship(), []api.Hearer{up(deck, 1), up(wreck, 1)}, on(target), api.ErrForm)
		wantWrong(t, "too many", ship(), many(api.MaxHearers+1), on(target), api.ErrMany)
	}
}

// TestWrongStores: what is wrong with the store is told ahead of all else.
func TestWrongStores(t *testing.T) {
	changed := func(place int, change func(n *api.Node)) api.Store {
		s := ship()
		change(&s.Nodes[place])
		return s
	}
	for what, s := range map[string]api.Store{
		"too many places":       of(slices.Repeat([]api.Node{alone()}, api.MaxNodes+1)...),
		"a tag that may not be": changed(deck, func(n *api.Node) { n.Tag = -1 }),
		"a host far away":       changed(lining, func(n *api.Node) { n.Host = 50 }),
		"closed, and no root":   changed(gull, func(n *api.Node) { n.Closed = true }),
		"a host of two":         changed(lining, func(n *api.Node) { n.Host = hull }),
		"a ring of children":    of(child(1), child(0)),
		"a ring of roots":       of(root(1, true), root(0, true)),
		"its own host":          of(alone(), root(1, true)),
	} {
		want := store.Check(s)
		if want == api.OK {
			t.Errorf("%s: Check says nothing", what)
		}
		for _, h := range []api.Hand{on(0), on(1), on(wreck), on(50), {}} {
			for _, l := range [][]api.Hearer{nil, {up(0, 1)}, {up(0, 1), up(0, 1)}, {up(-1, 1)}, many(api.MaxHearers + 1)} {
				wantWrong(t, what, s, l, h, want)
			}
		}
	}
}

// TestNobodyHears: there is no call, and all are left.
func TestNobodyHears(t *testing.T) {
	wantCalls(t, "nobody there", nil, jewel, nil)
	wantCalls(t, "nobody there", []api.Hearer{}, sea, nil)
	aside := []api.Hearer{once(stops(down(deck, 1))), once(up(gull, 2)), once(up(wreck, 3)), down(wreck, 4)}
	wantCalls(t, "aside of the path", aside, jewel, aside)
	below := []api.Hearer{once(down(jewel, 1)), once(up(hold, 2)), once(up(deck, 3))}
	wantCalls(t, "below the target", below, hull, below)
	above := []api.Hearer{down(sea, 1), up(sea, 2)}
	wantCalls(t, "of what stands nowhere", above, gull, above)
}

// TestWays: down from the top to the target, and up again; to all outside of a root, it happened at its host.
func TestWays(t *testing.T) {
	l := []api.Hearer{
		up(jewel, 1), down(jewel, 2), up(sea, 3), down(sea, 4), up(hold, 5), down(hold, 6),
		down(hull, 7), up(hull, 8), down(lining, 9), up(lining, 10), down(crate, 11), up(crate, 12), down(deck, 13), up(deck, 14),
	}
	wantCalls(t, "in a root in a root", l, jewel, l,
		api.Call{ID: 4, At: sea, Target: hull, Phase: 1},
		api.Call{ID: 7, At: hull, Target: hull, Phase: 2},
		api.Call{ID: 6, At: hold, Target: crate, Phase: 1},
		api.Call{ID: 11, At: crate, Target: crate, Phase: 2},
		api.Call{ID: 9, At: lining, Target: jewel, Phase: 1},
		api.Call{ID: 2, At: jewel, Target: jewel, Phase: 2},
		api.Call{ID: 1, At: jewel, Target: jewel, Phase: 2},
		api.Call{ID: 10, At: lining, Target: jewel, Phase: 3},
		api.Call{ID: 12, At: crate, Target: crate, Phase: 2},
		api.Call{ID: 5, At: hold, Target: crate, Phase: 3},
		api.Call{ID: 8, At: hull, Target: hull, Phase: 2},
		api.Call{ID: 3, At: sea, Target: hull, Phase: 3},
	)
	wantCalls(t, "at a root", l, hold, l,
		api.Call{ID: 4, At: sea, Target: hull, Phase: 1},
		api.Call{ID: 7, At: hull, Target: hull, Phase: 2},
		api.Call{ID: 6, At: hold, Target: hold, Phase: 2},
		api.Call{ID: 5, At: hold, Target: hold, Phase: 2},
		api.Call{ID: 8, At: hull, Target: hull, Phase: 2},
		api.Call{ID: 3, At: sea, Target: hull, Phase: 3},
	)
	wantCalls(t, "beside a root", l, deck, l,
		api.Call{ID: 4, At: sea, Target: deck, Phase: 1},
		api.Call{ID: 7, At: hull, Target: deck, Phase: 1},
		api.Call{ID: 13, At: deck, Target: deck, Phase: 2},
		api.Call{ID: 14, At: deck, Target: deck, Phase: 2},
		api.Call{ID: 8, At: hull, Target: deck, Phase: 3},
		api.Call{ID: 3, At: sea, Target: deck, Phase: 3},
	)
	wantCalls(t, "at the top", l, sea, l,
		api.Call{ID: 4, At: sea, Target: sea, Phase: 2},
		api.Call{ID: 3, At: sea, Target: sea, Phase: 2},
	)
	wantHeard(t, "on the way down alone", []api.Hearer{down(jewel, 1), down(sea, 2)}, jewel, 2, 1)
	wantHeard(t, "on the way up alone", []api.Hearer{up(sea, 2), up(jewel, 1)}, jewel, 1, 2)
}

// TestOrderAtANode: of one node and way in the order of the list, whatever their IDs are.
func TestOrderAtANode(t *testing.T) {
	l := []api.Hearer{up(hull, 9), down(hull, 3), up(hull, -5), down(hull, math.MaxInt), up(hull, math.MinInt), down(hull, 0), up(hull, 4)}
	wantHeard(t, "at the target", l, hull, 3, math.MaxInt, 0, 9, -5, math.MinInt, 4)
	wantHeard(t, "on the way", l, deck, 3, math.MaxInt, 0, 9, -5, math.MinInt, 4)
}

// TestStops: all others of that node and way hear still, ahead of it or behind it, and none further on.
func TestStops(t *testing.T) {
	full := func() []api.Hearer {
		return []api.Hearer{
			down(sea, 1), down(sea, 2), down(hull, 3), down(hull, 4), down(deck, 5), down(deck, 6),
			up(deck, 7), up(deck, 8), up(hull, 9), up(hull, 10), up(sea, 11), up(sea, 12),
		}
	}
	wantHeard(t, "none stops", full(), deck, 1, 2, 3, 4, 5, 6, 7, 8, 9, 10, 11, 12)
	for k := range full() {
		l := full()
		l[k].Stops = true
		var want []int
		for id := 1; id <= k/2*2+2; id++ {
			want = append(want, id)
		}
		wantHeard(t, "one stops", l, deck, want...)
		// What stops further on has nothing to stop any more.
		for j := k; j < len(l); j++ {
			l[j].Stops = true
		}
		wantHeard(t, "all from there on stop", l, deck, want...)
	}
	aside := append(full(), stops(down(gull, 20)), stops(up(jewel, 21)), stops(down(hold, 22)))
	wantHeard(t, "those aside stop nothing", aside, deck, 1, 2, 3, 4, 5, 6, 7, 8, 9, 10, 11, 12)
	wantHeard(t, "at a host, what happens in its root", []api.Hearer{up(hull, 1), stops(down(hull, 2)), down(hull, 3), down(hold, 4)}, jewel, 2, 3)
}

// TestOnce: who is Once, and heard, hears no other event; who didn't hear, is left.
func TestOnce(t *testing.T) {
	l := []api.Hearer{once(up(sea, 1)), up(sea, 2), once(down(sea, 3)), once(up(deck, 4)), once(up(gull, 5)), once(down(hull, 6))}
	left := wantCalls(t, "the first event", l, hull, []api.Hearer{l[1], l[3], l[4]},
		api.Call{ID: 3, At: sea, Target: hull, Phase: 1},
		api.Call{ID: 6, At: hull, Target: hull, Phase: 2},
		api.Call{ID: 1, At: sea, Target: hull, Phase: 3},
		api.Call{ID: 2, At: sea, Target: hull, Phase: 3},
	)
	left = wantCalls(t, "the second event", left, deck, []api.Hearer{l[1], l[4]},
		api.Call{ID: 4, At: deck, Target: deck, Phase: 2},
		api.Call{ID: 2, At: sea, Target: deck, Phase: 3},
	)
	left = wantCalls(t, "the third event", left, gull, []api.Hearer{l[1]}, api.Call{ID: 5, At: gull, Target: gull, Phase: 2})
	wantCalls(t, "the fourth event", left, sea, []api.Hearer{l[1]}, api.Call{ID: 2, At: sea, Target: sea, Phase: 2})
	wantCalls(t, "all of them", []api.Hearer{once(up(gull, 1)), once(down(gull, 2))}, gull, nil,
		api.Call{ID: 2, At: gull, Target: gull, Phase: 2}, api.Call{ID: 1, At: gull, Target: gull, Phase: 2})
}

// TestOnceAndStops: who is stopped didn't hear, and is left; who stops, heard.
func TestOnceAndStops(t *testing.T) {
	l := []api.Hearer{once(stops(up(hull, 1))), once(up(hull, 2)), once(up(sea, 3)), once(down(sea, 4))}
	left := wantCalls(t, "stopped", l, hull, []api.Hearer{l[2]},
		api.Call{ID: 4, At: sea, Target: hull, Phase: 1},
		api.Call{ID: 1, At: hull, Target: hull, Phase: 2},
		api.Call{ID: 2, At: hull, Target: hull, Phase: 2},
	)
	wantCalls(t, "stopped no more", left, hull, nil, api.Call{ID: 3, At: sea, Target: hull, Phase: 3})
}

// TestFull: as many nodes and hearers as may be, roots in roots.
func TestFull(t *testing.T) {
	nodes := []api.Node{alone()}
	for k := range api.MaxNodes - 1 {
		nodes = append(nodes, root(k, true))
	}
	var l []api.Hearer
	for k := range api.MaxHearers {
		l = append(l, once(up(k, k)))
	}
	last := api.MaxNodes - 1
	calls, left, e := event.Dispatch(of(nodes...), l, on(last))
	if e != api.OK || len(calls) != api.MaxHearers || len(left) != 0 {
		t.Fatalf("%+v, %+v, errno %d", calls, left, e)
	}
	for k, c := range calls {
		if want := (api.Call{ID: last - k, At: last - k, Target: last - k, Phase: 2}); c != want {
			t.Errorf("call %d: %+v, want %+v", k, c, want)
		}
	}
}

// TestNothingIsSharedOrChanged: what was handed in stays as it was, and the spare room behind it, whatever is done to the answers.
func TestNothingIsSharedOrChanged(t *testing.T) {
	roomy := func() (api.Store, []api.Hearer, func() []any) {
		s := ship()
		var kids [][]int
		for k, n := range s.Nodes {
			kids = append(kids, append(slices.Clone(n.Kids), 70, 71))
			s.Nodes[k].Kids = kids[k][:len(n.Kids)]
		}
		nodes := append(slices.Clone(s.Nodes), api.Node{Uses: 80}, api.Node{Uses: 81})
		l := []api.Hearer{once(down(sea, 1)), up(sea, 2), once(up(deck, 3)), down(hull, 4), up(sea, 90), up(sea, 91)}
		return api.Store{Nodes: nodes[:shipPlaces]}, l[:4], func() []any { return []any{kids, nodes, l} }
	}
	s, l, room := roomy()
	_, _, want := roomy()
	for range 2 {
		for target, wantLeft := range map[int]int{hull: 3, deck: 2, gull: 4} {
			calls, left, e := event.Dispatch(s, l, on(target))
			if e != api.OK || len(left) != wantLeft {
				t.Errorf("%d: %+v, %+v, errno %d", target, calls, left, e)
			}
			clear(calls[:cap(calls)])
			clear(left[:cap(left)])
		}
		wantWrong(t, "an error", s, l, on(wreck), api.ErrGone)
		event.Check(l, shipPlaces)
	}
	if !reflect.DeepEqual(room(), want()) {
		t.Errorf("what was handed in is %+v, want %+v", room(), want())
	}
}
