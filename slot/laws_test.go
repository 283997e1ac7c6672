package slot_test

import (
	"math"
	"reflect"
	"slices"
	"testing"

	"glasshouse/api"
	"glasshouse/slot"
	"glasshouse/store"
)

// allStores calls visit with all stores of so many nodes, each of them alone, or a child, or a root of any place up to this one; wrong stores are among them.
func allStores(nodes, last int, visit func(s api.Store)) {
	kinds := []api.Node{alone()}
	for at := range last + 1 {
		kinds = append(kinds, child(at), root(at))
	}
	var add func(l []api.Node)
	add = func(l []api.Node) {
		if len(l) == nodes {
			visit(of(slices.Clone(l)...))
			return
		}
		for _, n := range kinds {
			add(append(l[:len(l):len(l)], n))
		}
	}
	add(nil)
}

// looks are what of a node may tell where it is shown: its number as a slot (-1: it is none), and its Mark.
var looks = [...][2]int{{-1, 0}, {0, 0}, {0, 1}, {1, 0}, {-1, 1}}

// rightStores calls visit with right stores of so many nodes: of every shape, and each shape with so many looks of its nodes, one after the other of all that there are; the Kids are in order, and reversed, by turns.
func rightStores(nodes, some int, visit func(s api.Store)) {
	turn := 0
	allStores(nodes, nodes-1, func(s api.Store) {
		if store.Check(s) != api.OK {
			return
		}
		for range some {
			turn++
			left := turn
			for k := range s.Nodes {
				look := looks[left%len(looks)]
				left /= len(looks)
				s.Nodes[k].Tag, s.Nodes[k].Mark = 0, look[1]
				if look[0] >= 0 {
					s.Nodes[k].Tag = api.FirstSlot + look[0]
				}
				slices.Reverse(s.Nodes[k].Kids)
			}
			visit(s)
		}
	})
}

// turnsFrom are the turns that lead by Kids from one place to another one: by which the places under it are in order; nil, if none do.
func turnsFrom(s api.Store, top, place int) []int {
	turns := []int{}
	for place != top {
		parent := s.Nodes[place].Parent
		if parent == -1 {
			return nil
		}
		turns = append(turns, slices.Index(s.Nodes[parent].Kids, place))
		place = parent
	}
	slices.Reverse(turns)
	return turns
}

// slotsOf is what the chapter says of Slots of a right store: told by the turns that lead to each node, not by a walk.
func slotsOf(s api.Store, host int) []api.Slot {
	top := slices.IndexFunc(s.Nodes, func(n api.Node) bool { return n.Host == host })
	if top < 0 {
		return nil
	}
	var slots []api.Slot
	for k, n := range s.Nodes {
		if n.Tag >= api.FirstSlot && turnsFrom(s, top, k) != nil {
			slots = append(slots, api.Slot{Place: k, Number: n.Tag - api.FirstSlot})
		}
	}
	slices.SortFunc(slots, func(a, b api.Slot) int {
		return slices.Compare(turnsFrom(s, top, a.Place), turnsFrom(s, top, b.Place))
	})
	for _, kid := range s.Nodes[host].Kids {
		first := slices.IndexFunc(slots, func(x api.Slot) bool { return x.Number == s.Nodes[kid].Mark })
		if first >= 0 {
			slots[first].Given = append(slots[first].Given, kid)
		}
	}
	return slots
}

// given is what the chapter says of Given: of all that are slots of all roots, the one that has it.
func given(s api.Store, place int) int {
	for host := range s.Nodes {
		for _, x := range slotsOf(s, host) {
			if slices.Contains(x.Given, place) {
				return x.Place
			}
		}
	}
	return -1
}

// shown is what the chapter says is shown right under a node.
func shown(s api.Store, place int) []int {
	for _, n := range s.Nodes {
		if n.Host == place {
			return n.Kids
		}
	}
	var given []int
	for host := range s.Nodes {
		for _, x := range slotsOf(s, host) {
			if x.Place == place {
				given = append(given, x.Given...)
			}
		}
	}
	if given != nil {
		return given
	}
	return s.Nodes[place].Kids
}

// TestRightStores: Slots, Given and Flat of all nodes are as the chapter says; and so nothing is shown twice. Up to three nodes, all looks are tried, with the Kids in both orders; of more, some.
func TestRightStores(t *testing.T) {
	stores, slots, gave, hidden := 0, 0, 0, 0
	hold := func(s api.Store) {
		stores++
		for k := range s.Nodes {
			want := slotsOf(s, k)
			wantSlots(t, "by the chapter", s, k, want...)
			slots += len(want)
			to := given(s, k)
			wantGiven(t, "by the chapter", s, k, to)
			if to >= 0 {
				gave++
			}
			if !holdFlat(t, s, k) {
				hidden++
			}
		}
		if t.Failed() {
			t.Fatalf("of %+v", s)
		}
	}
	for nodes, some := range []int{2, 10, 50, 250, 50, 8} {
		rightStores(nodes, some, hold)
	}
	if stores < 10000 || slots < 10000 || gave < 1000 || hidden < 1000 {
		t.Errorf("%d stores, %d slots, %d given, %d hidden: too few", stores, slots, gave, hidden)
	}
}

// holdFlat: what is Flat under a node is that, and then the Flat of each that is shown right under it; none is in it twice. It tells whether all that stand under it are shown.
func holdFlat(t *testing.T, s api.Store, place int) bool {
	t.Helper()
	want := []int{place}
	for _, at := range shown(s, place) {
		flat, e := slot.Flat(s, on(at))
		if e != api.OK {
			t.Errorf("flat of %d: errno %d", at, e)
		}
		want = append(want, flat...)
	}
	wantFlat(t, "by the chapter", s, want...)
	for k, at := range want {
		if slices.Contains(want[:k], at) {
			t.Errorf("flat of %d: %v: %d twice", place, want, at)
		}
	}
	for k := range s.Nodes {
		if turnsFrom(s, place, k) != nil && !slices.Contains(want, k) {
			return false
		}
	}
	return true
}

// TestShownUnderOne: a node is shown right under one other at most, but for the Kids of a root, which are shown under that and its host; and roots under none.
func TestShownUnderOne(t *testing.T) {
	rightStores(4, 20, func(s api.Store) {
		under := make([][]int, len(s.Nodes))
		for k := range s.Nodes {
			flat, e := slot.Flat(s, on(k))
			if e != api.OK {
				t.Fatalf("of %+v, flat of %d: errno %d", s, k, e)
			}
			for _, at := range flat[1:] {
				under[at] = append(under[at], k)
			}
		}
		for k, n := range s.Nodes {
			if n.Host != -1 && len(under[k]) > 0 {
				t.Fatalf("of %+v, the root %d is shown under %v", s, k, under[k])
			}
		}
		for k := range s.Nodes {
			var right []int
			for _, above := range under[k] {
				if s.Nodes[above].Host == -1 && slices.Contains(shown(s, above), k) {
					right = append(right, above)
				}
			}
			if len(right) > 1 {
				t.Fatalf("of %+v, %d is shown right under %v", s, k, right)
			}
		}
	})
}

// TestAllSmallStores: of wrong ones (rings, hosts of two, those that name no place) all calls say what Check says.
func TestAllSmallStores(t *testing.T) {
	const places = 3
	wrong := 0
	for _, number := range []int{-1, 0} {
		allStores(places, places, func(s api.Store) {
			for k := range s.Nodes {
				s.Nodes[k].Mark = 0
				s.Nodes[k].Tag = api.FirstSlot + number
			}
			want := store.Check(s)
			if want == api.OK {
				return
			}
			wrong++
			for k := range places {
				wantAllWrong(t, "a wrong store", s, on(k), want)
			}
			if t.Failed() {
				t.Fatalf("of %+v", s)
			}
		})
	}
	if wrong < 1000 {
		t.Errorf("%d wrong stores: too few", wrong)
	}
}

// TestWild: no call panics, whatever it is given, and the same call answers the same.
func TestWild(t *testing.T) {
	wild := []int{math.MinInt, -2, -1, 0, 1, 2, api.FirstSlot, math.MaxInt}
	for _, a := range wild {
		for _, b := range wild {
			for _, c := range wild {
				for _, used := range []bool{false, true} {
					n := api.Node{Used: used, Uses: a, Tag: b, Mark: c, Parent: b, Kids: []int{a, c, b, a}, Host: c, Closed: used}
					for _, s := range []api.Store{{}, {Nodes: []api.Node{n}}, {Nodes: []api.Node{n, alone(), n}}, {Nodes: []api.Node{numbered(0, root(1)), n}}} {
						holdTwice(t, s, api.Hand{Place: b, Use: a})
						holdTwice(t, s, on(1))
					}
				}
			}
		}
	}
}

// holdTwice makes all calls twice, and holds the answers against each other.
func holdTwice(t *testing.T, s api.Store, h api.Hand) {
	t.Helper()
	answers := func() []any {
		slots, e1 := slot.Slots(s, h)
		to, e2 := slot.Given(s, h)
		flat, e3 := slot.Flat(s, h)
		return []any{slots, e1, to, e2, flat, e3}
	}
	if first, second := answers(), answers(); !reflect.DeepEqual(first, second) {
		t.Fatalf("of %+v, %+v: %+v, then %+v", s, h, first, second)
	}
}

// nested is a store of hosts in roots of hosts, so many deep: in each root stands the next host, whose child is a slot of that root, and so passes on what it is given; in the last root stands a slot alone.
func nested(deep int) api.Store {
	nodes := []api.Node{alone(), marked(0, child(0))}
	host := 0
	for range deep {
		at := len(nodes)
		nodes = append(nodes, root(host), child(at), numbered(0, marked(0, child(at+1))))
		host = at + 1
	}
	return of(append(nodes, root(host), numbered(0, child(len(nodes))))...)
}

// TestFullStores: as many nodes as may be, all in one slot, or all of them slots.
func TestFullStores(t *testing.T) {
	nodes := []api.Node{alone(), root(0), numbered(0, child(1))}
	var kids []int
	for k := len(nodes); k < api.MaxNodes; k++ {
		nodes = append(nodes, marked(0, child(0)))
		kids = append(kids, k)
	}
	s := of(nodes...)
	wantSlots(t, "all in one", s, 0, api.Slot{Place: 2, Given: kids})
	wantGiven(t, "all in one", s, api.MaxNodes-1, 2)
	wantFlat(t, "all in one", s, append([]int{0, 2}, kids...)...)

	nodes = []api.Node{alone(), root(0), marked(9, child(0))}
	var slots []api.Slot
	for k := len(nodes); k < api.MaxNodes; k++ {
		number := len(slots) % 10
		nodes = append(nodes, numbered(number, child(1)))
		slots = append(slots, api.Slot{Place: k, Number: number})
	}
	slots[9].Given = []int{2}
	s = of(nodes...)
	wantSlots(t, "all slots", s, 0, slots...)
	wantGiven(t, "all slots", s, 2, slots[9].Place)
}

// TestNested: what is given to the outermost host is shown in the innermost slot, passed on from slot to slot.
func TestNested(t *testing.T) {
	for deep := range 7 {
		s := nested(deep)
		if e := store.Check(s); e != api.OK {
			t.Fatalf("%d deep: Check answers %d", deep, e)
		}
		innermost := len(s.Nodes) - 1
		want := []int{0}
		for k := range deep {
			want = append(want, 3+3*k)
		}
		want = append(want, innermost)
		to := innermost
		for k := deep - 1; k >= 0; k-- {
			want = append(want, 4+3*k)
			wantGiven(t, "nested", s, 4+3*k, to)
			to = 4 + 3*k
		}
		wantGiven(t, "nested", s, 1, to)
		wantFlat(t, "nested", s, append(want, 1)...)
	}
}

// TestGreatStores: of more nodes than may be, no call takes a long time.
func TestGreatStores(t *testing.T) {
	s := nested(70000)
	for range 2 {
		wantAllWrong(t, "a great store", s, on(0), api.ErrMany)
		s.Nodes[0] = root(len(s.Nodes) - 1)
	}
}

// TestNothingIsSharedOrChanged: what was handed in stays as it was, and the spare room behind it, whatever is done to the answers; and no two lists of an answer are one.
func TestNothingIsSharedOrChanged(t *testing.T) {
	roomy := func() (api.Store, func() []any) {
		s := newBook()
		var kids [][]int
		for k, n := range s.Nodes {
			kids = append(kids, append(slices.Clone(n.Kids), 70, 71))
			s.Nodes[k].Kids = kids[k][:len(n.Kids)]
		}
		nodes := append(slices.Clone(s.Nodes), api.Node{Uses: 80}, api.Node{Uses: 81})
		return api.Store{Nodes: nodes[:bookPlaces]}, func() []any { return []any{kids, nodes} }
	}
	s, room := roomy()
	_, want := roomy()
	for range 2 {
		slots, e := slot.Slots(s, on(book))
		if e != api.OK || len(slots) != 5 {
			t.Fatalf("%+v, errno %d", slots, e)
		}
		for k, x := range slots {
			for j := range x.Given[:cap(x.Given)] {
				x.Given[:cap(x.Given)][j] = -77 - k
			}
		}
		for k, x := range slots {
			if slices.ContainsFunc(x.Given, func(at int) bool { return at != -77-k }) {
				t.Errorf("what is Given to slot %d shares memory with others: %v", k, x.Given)
			}
		}
		clear(slots[:cap(slots)])
		for _, place := range []int{book, head, left, foot, lost, one} {
			flat, e := slot.Flat(s, on(place))
			if e != api.OK || flat[0] != place {
				t.Fatalf("%v, errno %d", flat, e)
			}
			clear(flat[:cap(flat)])
		}
		wantGiven(t, "after all that", s, one, left)
	}
	if !reflect.DeepEqual(room(), want()) {
		t.Errorf("what was handed in is %+v, want %+v", room(), want())
	}
}
