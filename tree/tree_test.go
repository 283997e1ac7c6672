package tree_test

import (
	"math"
	"reflect"
	"slices"
	"testing"

	"glasshouse/api"
	"glasshouse/store"
	"glasshouse/tree"
)

// nothing: a node that stands nowhere; gap: a place that was used once, and isn't any more.
const (
	nothing = -1
	gap     = -100
)

// rootOf says in grown that a node's Host is the one at this place.
func rootOf(host int) int { return -2 - host }

// grown is a store in which each node stands right under what is said of it, behind those ahead of it.
func grown(under ...int) api.Store {
	s := api.Store{Nodes: make([]api.Node, len(under))}
	for k, u := range under {
		s.Nodes[k] = api.Node{Used: u != gap, Uses: 1, Parent: -1, Host: -1}
		if u <= -2 && u != gap {
			s.Nodes[k].Host = -2 - u
		}
	}
	for k, u := range under {
		if u >= 0 {
			s.Nodes[k].Parent = u
			s.Nodes[u].Kids = append(s.Nodes[u].Kids, k)
		}
	}
	return s
}

// changed is a store after a change of one node.
func changed(s api.Store, place int, change func(n *api.Node)) api.Store {
	change(&s.Nodes[place])
	return s
}

// on is a hand on what is in a place that was used once.
func on(place int) api.Hand { return api.Hand{Place: place, Use: 1} }

// hands are those on what is in these places.
func hands(places ...int) []api.Hand {
	var l []api.Hand
	for _, p := range places {
		l = append(l, on(p))
	}
	return l
}

// wantWrong: that error, and beside it nothing.
func wantWrong(t *testing.T, what string, got any, e, want api.Errno) {
	t.Helper()
	if e != want {
		t.Errorf("%s: errno %d, want %d", what, e, want)
	}
	if !reflect.ValueOf(got).IsZero() {
		t.Errorf("%s: %+v beside an error", what, got)
	}
}

// wantStore: nothing is wrong, and that store is answered.
func wantStore(t *testing.T, what string, got api.Store, e api.Errno, want api.Store) {
	t.Helper()
	if e != api.OK || !store.Same(got, want) {
		t.Errorf("%s: %+v, errno %d, want %+v", what, got, e, want)
	}
}

// wrongStore is a store with a fault, and what Check says of it.
type wrongStore struct {
	what string
	s    api.Store
	want api.Errno
}

// wrongStores are of three places and more, each with another fault.
func wrongStores() []wrongStore {
	const far = 7
	return []wrongStore{
		{"too many places", grown(make([]int, api.MaxNodes+1)...), api.ErrMany},
		{"a tag that may not be", changed(grown(nothing, 0, 0), 2, func(n *api.Node) { n.Tag = api.MaxTag + 1 }), api.ErrRange},
		{"a child far away", changed(grown(nothing, 0, 0), 0, func(n *api.Node) { n.Kids = append(n.Kids, far) }), api.ErrWho},
		{"a parent far away", changed(grown(nothing, 0, 0), 1, func(n *api.Node) { n.Parent = far }), api.ErrWho},
		{"closed, and no root", changed(grown(nothing, 0, 0), 1, func(n *api.Node) { n.Closed = true }), api.ErrForm},
		{"a child that isn't one", changed(grown(nothing, 0, 0), 1, func(n *api.Node) { n.Kids = []int{2} }), api.ErrTree},
		{"twice among the Kids", changed(grown(nothing, 0, 0), 0, func(n *api.Node) { n.Kids = []int{1, 2, 1} }), api.ErrTree},
		{"a ring", grown(1, 0, 0), api.ErrTree},
		{"a ring over a root", grown(rootOf(1), 0, 0), api.ErrTree},
	}
}

// TestInsertErrors: each error, and of two the one that is told first.
func TestInsertErrors(t *testing.T) {
	none, gone := api.Hand{Place: 9, Use: 1}, on(3)
	s := grown(nothing, 0, 0, gap, nothing, rootOf(4), 5)
	for _, c := range []struct {
		what          string
		parent, child api.Hand
		ahead         []api.Hand
		want          api.Errno
	}{
		{"two ahead", on(0), on(4), hands(1, 2), api.ErrForm},
		{"two ahead, and hands that hold nothing", none, none, []api.Hand{none, none}, api.ErrForm},
		{"two ahead, under itself", on(1), on(0), hands(1, 1), api.ErrForm},
		{"no such parent", none, on(4), nil, api.ErrWho},
		{"no such parent, a child that is gone", none, gone, []api.Hand{gone}, api.ErrWho},
		{"a parent that is gone", gone, on(4), nil, api.ErrGone},
		{"a parent that is gone, no such child", gone, none, []api.Hand{none}, api.ErrGone},
		{"no such child", on(0), none, nil, api.ErrWho},
		{"no such child, one ahead that is gone", on(0), none, []api.Hand{gone}, api.ErrWho},
		{"a child that is gone", on(0), gone, nil, api.ErrGone},
		{"a child that is gone, no such one ahead", on(0), gone, []api.Hand{none}, api.ErrGone},
		{"no such one ahead", on(0), on(4), []api.Hand{none}, api.ErrWho},
		{"one ahead that is gone", on(0), on(4), []api.Hand{gone}, api.ErrGone},
		{"one ahead that is gone, a root", on(0), on(5), []api.Hand{gone}, api.ErrGone},
		{"no such one ahead, under itself", on(0), on(0), []api.Hand{none}, api.ErrWho},
		{"use 0", on(0), api.Hand{Place: 4}, nil, api.ErrWho},
		{"a use that is yet to come", on(0), api.Hand{Place: 4, Use: 2}, nil, api.ErrWho},
		{"a root", on(0), on(5), nil, api.ErrTree},
		{"a root into its host", on(4), on(5), nil, api.ErrTree},
		{"into itself", on(4), on(4), nil, api.ErrTree},
		{"into itself, ahead of its child", on(0), on(0), hands(1), api.ErrTree},
		{"into its child", on(1), on(0), nil, api.ErrTree},
		{"into its root", on(5), on(4), nil, api.ErrTree},
		{"under its root", on(6), on(4), nil, api.ErrTree},
		{"ahead of what stands nowhere", on(0), on(4), hands(4), api.ErrTree},
		{"ahead of another one's child", on(0), on(4), hands(6), api.ErrTree},
		{"ahead of the parent", on(0), on(4), hands(0), api.ErrTree},
		{"ahead of a root", on(4), on(1), hands(5), api.ErrTree},
		{"ahead of itself, where it doesn't stand", on(4), on(1), hands(1), api.ErrTree},
	} {
		got, e := tree.Insert(s, c.parent, c.child, c.ahead)
		wantWrong(t, c.what, got, e, c.want)
	}
}

// TestWrongStores: Check's error, ahead of what the hands have wrong, and behind too many ahead.
func TestWrongStores(t *testing.T) {
	none := api.Hand{Place: 99, Use: 1}
	for _, c := range wrongStores() {
		if e := store.Check(c.s); e != c.want {
			t.Fatalf("%s: Check answers %d", c.what, e)
		}
		for _, h := range []api.Hand{on(0), none} {
			got, e := tree.Insert(c.s, h, on(1), nil)
			wantWrong(t, c.what+": Insert into it", got, e, c.want)
			got, e = tree.Insert(c.s, on(0), h, hands(2))
			wantWrong(t, c.what+": Insert of it", got, e, c.want)
			got, e = tree.Insert(c.s, on(0), on(1), []api.Hand{h})
			wantWrong(t, c.what+": Insert ahead of it", got, e, c.want)
			got, e = tree.Insert(c.s, h, h, []api.Hand{h, h})
			wantWrong(t, c.what+": Insert ahead of two", got, e, api.ErrForm)
			got, e = tree.Remove(c.s, h)
			wantWrong(t, c.what+": Remove", got, e, c.want)
			order, e := tree.Order(c.s, h)
			wantWrong(t, c.what+": Order", order, e, c.want)
		}
	}
}

func TestInsert(t *testing.T) {
	s := func() api.Store { return grown(nothing, 0, 0, 0, nothing, 4, rootOf(4)) }
	kids := func(place int, kids ...int) api.Store {
		return changed(s(), place, func(n *api.Node) { n.Kids = kids })
	}
	for _, c := range []struct {
		what          string
		parent, child int
		ahead         []api.Hand
		want          api.Store
	}{
		{"last", 1, 4, nil, grown(nothing, 0, 0, 0, 1, 4, rootOf(4))},
		{"last of some", 4, 0, nil, changed(grown(4, 0, 0, 0, nothing, 4, rootOf(4)), 4, func(n *api.Node) { n.Kids = []int{5, 0} })},
		{"ahead of the first", 0, 4, hands(1), changed(grown(nothing, 0, 0, 0, 0, 4, rootOf(4)), 0, func(n *api.Node) { n.Kids = []int{4, 1, 2, 3} })},
		{"ahead of the last", 0, 4, hands(3), changed(grown(nothing, 0, 0, 0, 0, 4, rootOf(4)), 0, func(n *api.Node) { n.Kids = []int{1, 2, 4, 3} })},
		{"from one to another", 4, 2, hands(5), grown(nothing, 0, 4, 0, nothing, 4, rootOf(4))},
		{"from a child to its parent", 0, 5, nil, grown(nothing, 0, 0, 0, nothing, 0, rootOf(4))},
		{"into a child of the same", 1, 3, nil, grown(nothing, 0, 0, 1, nothing, 4, rootOf(4))},
		{"into a root", 6, 5, nil, grown(nothing, 0, 0, 0, nothing, 6, rootOf(4))},
		{"forward", 0, 3, hands(1), kids(0, 3, 1, 2)},
		{"one forward", 0, 3, hands(2), kids(0, 1, 3, 2)},
		{"backward", 0, 1, hands(3), kids(0, 2, 1, 3)},
		{"to the end", 0, 1, nil, kids(0, 2, 3, 1)},
		{"the last one to the end", 0, 3, nil, s()},
		{"ahead of the next one", 0, 1, hands(2), s()},
		{"ahead of itself, first", 0, 1, hands(1), s()},
		{"ahead of itself", 0, 2, hands(2), s()},
		{"ahead of itself, last", 0, 3, hands(3), s()},
		{"ahead of itself, alone", 4, 5, hands(5), s()},
	} {
		got, e := tree.Insert(s(), on(c.parent), on(c.child), c.ahead)
		wantStore(t, c.what, got, e, c.want)
	}
}

// TestFields: who is moved keeps its tag, mark, uses and Kids, and so do all others.
func TestFields(t *testing.T) {
	s := grown(nothing, nothing, 1, rootOf(1))
	for k := range s.Nodes {
		s.Nodes[k].Uses, s.Nodes[k].Tag, s.Nodes[k].Mark = 10+k, 20+k, -30-k
	}
	s.Nodes[3].Closed = true
	want := changed(changed(copied(s), 0, func(n *api.Node) { n.Kids = []int{1} }), 1, func(n *api.Node) { n.Parent = 0 })
	put, e := tree.Insert(s, api.Hand{Place: 0, Use: 10}, api.Hand{Place: 1, Use: 11}, nil)
	wantStore(t, "Insert", put, e, want)
	back, e := tree.Remove(put, api.Hand{Place: 1, Use: 11})
	wantStore(t, "Remove", back, e, s)
	_, e = tree.Remove(put, api.Hand{Place: 1, Use: 10})
	if e != api.ErrGone {
		t.Errorf("a hand of an earlier use: %d", e)
	}
}

func TestRemove(t *testing.T) {
	s := grown(nothing, 0, 0, 0, 2, gap, rootOf(0), rootOf(2))
	for _, c := range []struct {
		what string
		h    api.Hand
		want api.Errno
	}{
		{"no such one", api.Hand{Place: 8, Use: 1}, api.ErrWho},
		{"no such use", api.Hand{Place: 1, Use: 2}, api.ErrWho},
		{"gone", on(5), api.ErrGone},
		{"nobody's child", on(0), api.ErrTree},
		{"a root", on(6), api.ErrTree},
	} {
		got, e := tree.Remove(s, c.h)
		wantWrong(t, c.what, got, e, c.want)
	}
	for _, c := range []struct {
		what  string
		place int
		want  api.Store
	}{
		{"the first", 1, grown(nothing, nothing, 0, 0, 2, gap, rootOf(0), rootOf(2))},
		{"one between, with what it has", 2, grown(nothing, 0, nothing, 0, 2, gap, rootOf(0), rootOf(2))},
		{"the last", 3, grown(nothing, 0, 0, nothing, 2, gap, rootOf(0), rootOf(2))},
		{"the only one", 4, grown(nothing, 0, 0, 0, nothing, gap, rootOf(0), rootOf(2))},
	} {
		got, e := tree.Remove(s, on(c.place))
		wantStore(t, c.what, got, e, c.want)
	}
}

func TestOrder(t *testing.T) {
	s := changed(grown(nothing, 0, 1, 1, 0, rootOf(1), 5, gap, nothing), 1, func(n *api.Node) { n.Kids = []int{3, 2} })
	for _, c := range []struct {
		what string
		h    api.Hand
		want api.Errno
	}{
		{"no such one", api.Hand{Place: 9, Use: 1}, api.ErrWho},
		{"below all places", api.Hand{Place: -1, Use: 1}, api.ErrWho},
		{"gone", on(7), api.ErrGone},
	} {
		got, e := tree.Order(s, c.h)
		wantWrong(t, c.what, got, e, c.want)
	}
	for place, want := range map[int][]int{0: {0, 1, 3, 2, 4}, 1: {1, 3, 2}, 2: {2}, 4: {4}, 5: {5, 6}, 8: {8}} {
		got, e := tree.Order(s, on(place))
		if e != api.OK || !slices.Equal(got, want) {
			t.Errorf("order of %d: %v, errno %d, want %v", place, got, e, want)
		}
	}
}

// TestFullStores: as many nodes as there may be, in one line, and beside each other.
func TestFullStores(t *testing.T) {
	line, row := []int{nothing}, []int{nothing}
	var all []int
	for k := range api.MaxNodes - 1 {
		line, row = append(line, k), append(row, 0)
	}
	for k := range api.MaxNodes {
		all = append(all, k)
	}
	for what, under := range map[string][]int{"a line": line, "a row": row} {
		got, e := tree.Order(grown(under...), on(0))
		if e != api.OK || !slices.Equal(got, all) {
			t.Errorf("order of %s: %v, errno %d", what, got, e)
		}
	}
	_, e := tree.Insert(grown(line...), on(api.MaxNodes-1), on(0), nil)
	if e != api.ErrTree {
		t.Errorf("the first of a line into the last: %d", e)
	}
}

// TestWildHands: no call panics, whatever the hands are.
func TestWildHands(t *testing.T) {
	wild := []int{math.MinInt, -1, 0, 1, 2, math.MaxInt}
	for _, s := range []api.Store{{}, grown(nothing, 0), grown(1, 0)} {
		for _, p := range wild {
			for _, u := range wild {
				h := api.Hand{Place: p, Use: u}
				for _, ahead := range [][]api.Hand{nil, {}, {h}, {on(1)}, {h, h}} {
					tree.Insert(s, h, on(1), ahead)
					tree.Insert(s, on(0), h, ahead)
				}
				tree.Remove(s, h)
				tree.Order(s, h)
			}
		}
	}
}
