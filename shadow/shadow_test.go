package shadow_test

import (
	"reflect"
	"slices"
	"testing"

	"glasshouse/api"
	"glasshouse/shadow"
	"glasshouse/store"
)

// alone is a node that stands nowhere, of the first use of its place.
func alone() api.Node { return api.Node{Used: true, Uses: 1, Parent: -1, Host: -1} }

// gone is a place that was used once, and isn't any more.
func gone() api.Node { return api.Node{Uses: 1, Parent: -1, Host: -1} }

// child is a node whose Parent is at this place.
func child(parent int) api.Node {
	n := alone()
	n.Parent = parent
	return n
}

// root is one of the node at this place.
func root(host int, closed bool) api.Node {
	n := alone()
	n.Host, n.Closed = host, closed
	return n
}

// of is a store of these nodes; Kids are in the order of their places.
func of(nodes ...api.Node) api.Store {
	for k, n := range nodes {
		if n.Parent >= 0 && n.Parent < len(nodes) {
			nodes[n.Parent].Kids = append(nodes[n.Parent].Kids, k)
		}
	}
	return api.Store{Nodes: nodes}
}

// on is a hand on what is in a place that was used once.
func on(place int) api.Hand { return api.Hand{Place: place, Use: 1} }

// These are the places of house.
const (
	lawn  = iota // the top
	wall         // a child of lawn: it has a closed root
	inner        // that root
	chest        // a child of inner: it has an open root
	lid          // that root
	coin         // a child of lid: it has a closed root
	core         // that root
	atom         // a child of core
	brick        // a child of wall: it stands beside the root, not in it
	fence        // a child of lawn: it has an open root
	mesh         // that root
	post         // a child of mesh
	away         // a node that stands nowhere
	ash          // a node that is gone
	housePlaces
)

// house is a store with roots in roots, open and closed.
func house() api.Store {
	return of(
		alone(),
		child(lawn), root(wall, true),
		child(inner), root(chest, false),
		child(lid), root(coin, true),
		child(core),
		child(wall),
		child(lawn), root(fence, false),
		child(mesh),
		alone(),
		gone(),
	)
}

// wrongHand is a hand that holds nothing in house, and what Find says of it.
type wrongHand struct {
	h    api.Hand
	want api.Errno
}

func wrongHands() map[string]wrongHand {
	return map[string]wrongHand{
		"gone":                       {on(ash), api.ErrGone},
		"no such place":              {on(housePlaces), api.ErrWho},
		"below all places":           {on(-1), api.ErrWho},
		"use 0":                      {api.Hand{Place: atom}, api.ErrWho},
		"a use below 0":              {api.Hand{Place: atom, Use: -1}, api.ErrWho},
		"a use that is yet to come":  {api.Hand{Place: atom, Use: 2}, api.ErrWho},
		"a use to come, of the gone": {api.Hand{Place: ash, Use: 2}, api.ErrWho},
	}
}

// wantWrong: that error, and beside it nothing.
func wantWrong(t *testing.T, what string, e, want api.Errno, others ...any) {
	t.Helper()
	if e != want {
		t.Errorf("%s: errno %d, want %d", what, e, want)
	}
	for _, other := range others {
		if !reflect.ValueOf(other).IsZero() {
			t.Errorf("%s: %+v beside an error", what, other)
		}
	}
}

func TestHouseIsRight(t *testing.T) {
	if e := store.Check(house()); e != api.OK {
		t.Fatalf("Check answers %d", e)
	}
}

// TestAttachErrors: each error, and of two the one that is told first.
func TestAttachErrors(t *testing.T) {
	full := of(alone(), root(0, false), child(1))
	worn := gone()
	worn.Uses = api.MaxUses
	usedTwice := of(alone(), root(0, false))
	usedTwice.Nodes[0].Uses = 2
	for _, c := range []struct {
		what string
		s    api.Store
		host api.Hand
		want api.Errno
	}{
		{"no places", api.Store{}, on(0), api.ErrWho},
		{"no such host, no room", full, on(3), api.ErrWho},
		{"a host that is gone, no room", of(alone(), worn), on(1), api.ErrGone},
		{"a hand of an earlier use, of what is a host", usedTwice, on(0), api.ErrGone},
		{"a host already", house(), on(wall), api.ErrTree},
		{"a host already, of an open root", house(), on(fence), api.ErrTree},
		{"a host already, in a root", house(), on(coin), api.ErrTree},
		{"a host already, no room", full, on(0), api.ErrTree},
		{"no room", full, on(1), api.ErrMany},
		{"no room, of a child", full, on(2), api.ErrMany},
		{"no room but in a worn place", of(alone(), worn), on(0), api.ErrMany},
	} {
		for _, closed := range []bool{false, true} {
			got, h, e := shadow.Attach(c.s, c.host, closed)
			wantWrong(t, c.what, e, c.want, got, h)
		}
	}
	for what, c := range wrongHands() {
		got, h, e := shadow.Attach(house(), c.h, true)
		wantWrong(t, what, e, c.want, got, h)
	}
}

func TestAttach(t *testing.T) {
	for what, host := range map[string]int{"to what stands nowhere": away, "to the top": lawn, "to a root": inner, "to a child of a root": atom, "to a child of a host": brick} {
		for _, closed := range []bool{false, true} {
			got, h, e := shadow.Attach(house(), on(host), closed)
			want := house()
			want.Nodes[ash] = api.Node{Used: true, Uses: 2, Parent: -1, Host: host, Closed: closed}
			if e != api.OK || h != (api.Hand{Place: ash, Use: 2}) || !store.Same(got, want) {
				t.Errorf("%s: %+v, %+v, errno %d, want %+v", what, got, h, e, want)
			}
			if e := store.Check(got); e != api.OK {
				t.Errorf("%s: then Check answers %d", what, e)
			}
		}
	}
}

// TestAttachPlace: the first place that Make takes, whatever is ahead of it and behind it.
func TestAttachPlace(t *testing.T) {
	worn := gone()
	worn.Uses = api.MaxUses
	s := of(worn, alone(), gone(), gone())
	s.Nodes[2].Uses = api.MaxUses - 1
	first, h, e := shadow.Attach(s, on(1), true)
	if e != api.OK || h != (api.Hand{Place: 2, Use: api.MaxUses}) {
		t.Fatalf("the first: %+v, errno %d", h, e)
	}
	second, h, e := shadow.Attach(first, h, false)
	if e != api.OK || h != (api.Hand{Place: 3, Use: 2}) || second.Nodes[3].Host != 2 || second.Nodes[3].Closed {
		t.Errorf("a root of the root: %+v, %+v, errno %d", second, h, e)
	}
}

// wrongStores are some of each error that Check has; what is in their first place is in use in all of them.
func wrongStores() map[string]api.Store {
	changed := func(place int, change func(n *api.Node)) api.Store {
		s := house()
		change(&s.Nodes[place])
		return s
	}
	great := slices.Repeat([]api.Node{alone()}, api.MaxNodes+2)
	great[api.MaxNodes+1] = gone()
	return map[string]api.Store{
		"too many places":         of(great...),
		"a tag that may not be":   changed(atom, func(n *api.Node) { n.Tag = -1 }),
		"a host far away":         changed(core, func(n *api.Node) { n.Host = 50 }),
		"closed, and no root":     changed(lawn, func(n *api.Node) { n.Closed = true }),
		"a host and a parent":     changed(atom, func(n *api.Node) { n.Host = lawn }),
		"gone, and a host":        changed(ash, func(n *api.Node) { n.Host = lawn }),
		"a root of what is gone":  changed(mesh, func(n *api.Node) { n.Host = ash }),
		"a host of two":           changed(mesh, func(n *api.Node) { n.Host = wall }),
		"a ring of children":      of(child(1), child(0), gone()),
		"a ring of roots":         of(root(1, true), root(0, true), gone()),
		"its own host, elsewhere": of(alone(), root(1, true), gone()),
	}
}

// TestWrongStores: what is wrong with the store is told ahead of what is wrong with hands, hosts and room; Target ends.
func TestWrongStores(t *testing.T) {
	for what, s := range wrongStores() {
		want := store.Check(s)
		if want == api.OK {
			t.Errorf("%s: Check says nothing", what)
		}
		for _, h := range []api.Hand{on(0), on(1), on(ash), on(housePlaces + 20), {}} {
			got, root, e := shadow.Attach(s, h, true)
			wantWrong(t, what+": Attach", e, want, got, root)
			from, e := shadow.Seen(s, h, on(0))
			wantWrong(t, what+": Seen from there", e, want, from)
			to, e := shadow.Seen(s, on(0), h)
			wantWrong(t, what+": Seen", e, want, to)
			path, e := shadow.Path(s, h)
			wantWrong(t, what+": Path", e, want, path)
			shadow.Target(s, h.Place, 0)
			shadow.Target(s, 0, h.Place)
		}
	}
}

// TestSeenErrors: what is wrong with from is told first.
func TestSeenErrors(t *testing.T) {
	for what, c := range wrongHands() {
		got, e := shadow.Seen(house(), c.h, on(lawn))
		wantWrong(t, what+", from", e, c.want, got)
		got, e = shadow.Seen(house(), on(lawn), c.h)
		wantWrong(t, what+", to", e, c.want, got)
		got, e = shadow.Seen(house(), c.h, c.h)
		wantWrong(t, what+", both", e, c.want, got)
		for other, d := range wrongHands() {
			got, e = shadow.Seen(house(), c.h, d.h)
			wantWrong(t, what+", from; "+other+", to", e, c.want, got)
		}
	}
}

// TestSeen: of all pairs of nodes of house.
func TestSeen(t *testing.T) {
	inInner := []int{inner, chest, lid, coin, core, atom}
	inCore := []int{core, atom}
	for from := range ash {
		for to := range ash {
			want := !slices.Contains(inInner, to) || slices.Contains(inInner, from)
			if slices.Contains(inCore, to) {
				want = slices.Contains(inCore, from)
			}
			got, e := shadow.Seen(house(), on(from), on(to))
			if e != api.OK || got != want {
				t.Errorf("%d from %d: %t, errno %d", to, from, got, e)
			}
		}
	}
}

func TestTarget(t *testing.T) {
	everywhere := []int{lawn, wall, inner, chest, lid, coin, core, atom, brick, fence, mesh, post, away}
	for _, c := range []struct {
		k    int
		told []int
		want int
	}{
		{atom, []int{core, atom}, atom},
		{atom, []int{lid, coin}, coin},
		{atom, []int{inner, chest}, chest},
		{atom, []int{lawn, wall, brick, fence, mesh, post, away}, wall},
		{core, []int{core, atom}, core},
		{core, []int{lid, coin}, coin},
		{core, []int{inner, chest}, chest},
		{core, []int{lawn, wall, brick, post}, wall},
		{coin, []int{lid, coin, core, atom}, coin},
		{coin, []int{inner, chest}, chest},
		{coin, []int{lawn, wall, brick, post}, wall},
		{inner, []int{inner, chest, lid, coin, core, atom}, inner},
		{inner, []int{lawn, wall, brick, fence, mesh, post, away}, wall},
		{post, []int{mesh, post}, post},
		{post, []int{lawn, wall, inner, atom, brick, fence, away}, fence},
		{mesh, []int{lawn, atom, fence}, fence},
		{lawn, everywhere, lawn},
		{wall, everywhere, wall},
		{brick, everywhere, brick},
		{fence, everywhere, fence},
		{away, everywhere, away},
	} {
		for _, told := range c.told {
			if got := shadow.Target(house(), c.k, told); got != c.want {
				t.Errorf("what happened at %d, told %d: %d, want %d", c.k, told, got, c.want)
			}
		}
	}
}

func TestPath(t *testing.T) {
	for what, c := range wrongHands() {
		got, e := shadow.Path(house(), c.h)
		wantWrong(t, what, e, c.want, got)
	}
	for _, want := range [][]int{
		{lawn},
		{wall, lawn},
		{inner, wall, lawn},
		{atom, core, coin, lid, chest, inner, wall, lawn},
		{brick, wall, lawn},
		{post, mesh, fence, lawn},
		{away},
	} {
		got, e := shadow.Path(house(), on(want[0]))
		if e != api.OK || !slices.Equal(got, want) {
			t.Errorf("path of %d: %v, errno %d, want %v", want[0], got, e, want)
		}
	}
}
