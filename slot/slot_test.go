package slot_test

import (
	"reflect"
	"slices"
	"testing"

	"glasshouse/api"
	"glasshouse/slot"
	"glasshouse/store"
)

// alone is a node that stands nowhere, of the first use of its place. Its Mark is no slot's number.
func alone() api.Node { return api.Node{Used: true, Uses: 1, Mark: -1, Parent: -1, Host: -1} }

// gone is a place that was used once, and isn't any more.
func gone() api.Node { return api.Node{Uses: 1, Parent: -1, Host: -1} }

// child is a node whose Parent is at this place.
func child(parent int) api.Node {
	n := alone()
	n.Parent = parent
	return n
}

// root is one of the node at this place.
func root(host int) api.Node {
	n := alone()
	n.Host = host
	return n
}

// numbered makes a node a slot of this number.
func numbered(number int, n api.Node) api.Node {
	n.Tag = api.FirstSlot + number
	return n
}

// marked gives a node this Mark.
func marked(mark int, n api.Node) api.Node {
	n.Mark = mark
	return n
}

// of is a store of these nodes; Kids are in the order of their places.
func of(nodes ...api.Node) api.Store {
	for k, n := range nodes {
		if n.Parent >= 0 && n.Parent < len(nodes) {
			nodes[n.Parent].Kids = append(nodes[n.Parent].Kids, k)
		}
	}
	return api.Store{Nodes: nodes}
}

// on is a hand on what is in a place that was used once.
func on(place int) api.Hand { return api.Hand{Place: place, Use: 1} }

// These are the places of book.
const (
	book  = iota // the top: it has a root
	cover        // that root
	head         // a child of cover: slot 0
	blank        // a child of head
	body         // a child of cover
	left         // a child of body: slot 1
	right        // a child of body: slot 1 again
	empty        // a child of right
	foot         // a child of cover: slot 2
	note         // a child of foot
	box          // a child of cover: it has a root
	lid          // that root
	gap          // a child of lid: slot 0
	pass         // a child of box, for its slot 0; itself cover's slot 3
	title        // a child of book, for slot 0
	one          // a child of book, for slot 1
	word         // a child of one, as if for slot 0
	lost         // a child of book, for a slot that there isn't
	two          // a child of book, for slot 1
	photo        // a child of book, for slot 3
	stray        // a node that stands nowhere: a slot of the number 0, with the Mark 0
	leaf         // a child of stray, with the Mark 0
	ash          // a node that is gone
	bookPlaces
)

// newBook is a store with slots in a root, and in a root in that.
func newBook() api.Store {
	return of(
		alone(), root(book),
		numbered(0, child(cover)), child(head),
		child(cover), numbered(1, child(body)), numbered(1, child(body)), child(right),
		numbered(2, child(cover)), child(foot),
		child(cover), root(box), numbered(0, child(lid)), numbered(3, marked(0, child(box))),
		marked(0, child(book)),
		marked(1, child(book)), marked(0, child(one)),
		marked(7, child(book)),
		marked(1, child(book)),
		marked(3, child(book)),
		numbered(0, marked(0, alone())), marked(0, child(stray)),
		gone(),
	)
}

// wantWrong: that error, and beside it nothing.
func wantWrong(t *testing.T, what string, e, want api.Errno, other any) {
	t.Helper()
	if e != want {
		t.Errorf("%s: errno %d, want %d", what, e, want)
	}
	if !reflect.ValueOf(other).IsZero() {
		t.Errorf("%s: %+v beside an error", what, other)
	}
}

// wantSlots: these, and nothing is wrong; lists that have nothing in them are alike.
func wantSlots(t *testing.T, what string, s api.Store, host int, want ...api.Slot) {
	t.Helper()
	got, e := slot.Slots(s, on(host))
	if e != api.OK || !slices.EqualFunc(got, want, sameSlot) {
		t.Errorf("%s: slots %+v, errno %d, want %+v", what, got, e, want)
	}
}

func sameSlot(a, b api.Slot) bool {
	return a.Place == b.Place && a.Number == b.Number && slices.Equal(a.Given, b.Given)
}

// wantGiven: to the slot at this place, and nothing is wrong.
func wantGiven(t *testing.T, what string, s api.Store, place, want int) {
	t.Helper()
	if got, e := slot.Given(s, on(place)); e != api.OK || got != want {
		t.Errorf("%s: %d is given to %d, errno %d, want %d", what, place, got, e, want)
	}
}

// wantFlat: of the first of these all of them, and nothing is wrong.
func wantFlat(t *testing.T, what string, s api.Store, want ...int) {
	t.Helper()
	if got, e := slot.Flat(s, on(want[0])); e != api.OK || !slices.Equal(got, want) {
		t.Errorf("%s: flat %v, errno %d, want %v", what, got, e, want)
	}
}

func TestBookIsRight(t *testing.T) {
	if e := store.Check(newBook()); e != api.OK {
		t.Fatalf("Check answers %d", e)
	}
}

// TestWrongHands: all calls say what Find says.
func TestWrongHands(t *testing.T) {
	for what, c := range map[string]struct {
		h    api.Hand
		want api.Errno
	}{
		"gone":                       {on(ash), api.ErrGone},
		"no such place":              {on(bookPlaces), api.ErrWho},
		"below all places":           {on(-1), api.ErrWho},
		"use 0, of a host":           {api.Hand{Place: book}, api.ErrWho},
		"a use below 0":              {api.Hand{Place: book, Use: -1}, api.ErrWho},
		"a use that is yet to come":  {api.Hand{Place: one, Use: 2}, api.ErrWho},
		"a use to come, of the gone": {api.Hand{Place: ash, Use: 2}, api.ErrWho},
	} {
		wantAllWrong(t, what, newBook(), c.h, c.want)
	}
	wantAllWrong(t, "no places", api.Store{}, on(0), api.ErrWho)
	usedTwice := newBook()
	usedTwice.Nodes[book].Uses = 2
	wantAllWrong(t, "a hand of an earlier use", usedTwice, on(book), api.ErrGone)
}

// wantAllWrong: all calls answer that error, and beside it nothing.
func wantAllWrong(t *testing.T, what string, s api.Store, h api.Hand, want api.Errno) {
	t.Helper()
	slots, e := slot.Slots(s, h)
	wantWrong(t, what+": Slots", e, want, slots)
	given, e := slot.Given(s, h)
	wantWrong(t, what+": Given", e, want, given)
	flat, e := slot.Flat(s, h)
	wantWrong(t, what+": Flat", e, want, flat)
}

// TestWrongStores: what is wrong with the store is told ahead of what is wrong with the hand.
func TestWrongStores(t *testing.T) {
	changed := func(place int, change func(n *api.Node)) api.Store {
		s := newBook()
		change(&s.Nodes[place])
		return s
	}
	for what, s := range map[string]api.Store{
		"too many places":        of(slices.Repeat([]api.Node{alone()}, api.MaxNodes+1)...),
		"a slot above all tags":  changed(left, func(n *api.Node) { n.Tag = api.MaxTag + 1 }),
		"a mark that may not be": changed(one, func(n *api.Node) { n.Mark = api.MaxValue + 1 }),
		"a host far away":        changed(cover, func(n *api.Node) { n.Host = 50 }),
		"a host and a parent":    changed(note, func(n *api.Node) { n.Host = leaf }),
		"gone, and a tag":        changed(ash, func(n *api.Node) { n.Tag = api.FirstSlot }),
		"a root of what is gone": changed(lid, func(n *api.Node) { n.Host = ash }),
		"a host of two":          changed(lid, func(n *api.Node) { n.Host = book }),
		"a child twice":          changed(book, func(n *api.Node) { n.Kids = append(n.Kids, one) }),
		"no child any more":      changed(book, func(n *api.Node) { n.Kids = n.Kids[1:] }),
		"another one's child":    changed(book, func(n *api.Node) { n.Kids = append(n.Kids, note) }),
		"a ring of children":     of(child(1), child(0)),
		"a ring of roots":        of(root(1), root(0)),
		"its own host":           of(numbered(0, root(0)), alone()),
	} {
		want := store.Check(s)
		if want == api.OK {
			t.Errorf("%s: Check says nothing", what)
		}
		for _, h := range []api.Hand{on(0), on(1), on(ash), on(bookPlaces + 20), {}} {
			wantAllWrong(t, what, s, h, want)
		}
	}
}

func TestSlots(t *testing.T) {
	s := newBook()
	wantSlots(t, "of the top", s, book,
		api.Slot{Place: head, Given: []int{title}},
		api.Slot{Place: left, Number: 1, Given: []int{one, two}},
		api.Slot{Place: right, Number: 1},
		api.Slot{Place: foot, Number: 2},
		api.Slot{Place: pass, Number: 3, Given: []int{photo}})
	wantSlots(t, "of a host in a root", s, box, api.Slot{Place: gap, Given: []int{pass}})
	for _, place := range []int{cover, head, body, left, lid, gap, pass, one, stray, leaf} {
		wantSlots(t, "of no host", s, place)
	}
}

// TestOrderOfSlots: by the order of the tree, not of places; so of those of one number another one is the first.
func TestOrderOfSlots(t *testing.T) {
	s := newBook()
	slices.Reverse(s.Nodes[cover].Kids)
	slices.Reverse(s.Nodes[body].Kids)
	slices.Reverse(s.Nodes[book].Kids)
	wantSlots(t, "reversed", s, book,
		api.Slot{Place: pass, Number: 3, Given: []int{photo}},
		api.Slot{Place: foot, Number: 2},
		api.Slot{Place: right, Number: 1, Given: []int{two, one}},
		api.Slot{Place: left, Number: 1},
		api.Slot{Place: head, Given: []int{title}})
	wantGiven(t, "reversed", s, one, right)
	wantFlat(t, "reversed", s, book, box, gap, pass, photo, foot, note, body, right, two, one, word, left, head, title)
}

// TestRootIsASlot: the root is the first of those that can be slots, though it isn't shown itself.
func TestRootIsASlot(t *testing.T) {
	s := of(alone(), numbered(2, root(0)), numbered(2, child(1)), child(2), marked(2, child(0)), child(4))
	wantSlots(t, "a root that is a slot", s, 0, api.Slot{Place: 1, Number: 2, Given: []int{4}}, api.Slot{Place: 2, Number: 2})
	wantGiven(t, "a root that is a slot", s, 4, 1)
	wantFlat(t, "its host", s, 0, 2, 3)
	wantFlat(t, "a root that is a slot", s, 1, 4, 5)
	s.Nodes[4].Mark = 3
	wantFlat(t, "a root that nothing is given to", s, 1, 2, 3)
}

// TestSlotIsAHost: it shows its root, whatever it is given; that is given to it all the same.
func TestSlotIsAHost(t *testing.T) {
	s := of(alone(), root(0), numbered(0, child(1)), root(2), child(3), marked(0, child(0)), child(2))
	wantSlots(t, "a slot that is a host", s, 0, api.Slot{Place: 2, Given: []int{5}})
	wantSlots(t, "the slot's own root", s, 2)
	wantGiven(t, "a slot that is a host", s, 5, 2)
	wantFlat(t, "a slot that is a host", s, 0, 2, 4)
}

// TestSlotUnderASlot: both have what is given to them; what is under the outer one is shown only if it is given nothing.
func TestSlotUnderASlot(t *testing.T) {
	s := of(alone(), root(0), numbered(0, child(1)), numbered(1, child(2)), marked(0, child(0)), marked(1, child(0)))
	wantSlots(t, "a slot under a slot", s, 0, api.Slot{Place: 2, Given: []int{4}}, api.Slot{Place: 3, Number: 1, Given: []int{5}})
	wantFlat(t, "the outer one is given something", s, 0, 2, 4)
	wantFlat(t, "the inner one", s, 3, 5)
	s.Nodes[4].Mark = 2
	wantFlat(t, "the outer one is given nothing", s, 0, 2, 3, 5)
}

// TestNumbers: from the first tag of a slot to the last tag of all.
func TestNumbers(t *testing.T) {
	for tag := range api.MaxTag + 1 {
		number := tag - api.FirstSlot
		s := of(alone(), root(0), child(1), marked(number, child(0)), marked(number+1, child(0)), marked(-number-1, child(0)))
		s.Nodes[2].Tag = tag
		if number < 0 {
			wantSlots(t, "no slot", s, 0)
			wantGiven(t, "no slot", s, 3, -1)
			wantFlat(t, "no slot", s, 0, 2)
			continue
		}
		wantSlots(t, "a slot", s, 0, api.Slot{Place: 2, Number: number, Given: []int{3}})
		wantGiven(t, "a slot", s, 3, 2)
		wantFlat(t, "a slot", s, 0, 2, 3)
	}
}

func TestGiven(t *testing.T) {
	s := newBook()
	to := map[int]int{title: head, one: left, two: left, photo: pass, pass: gap}
	for place := range ash {
		want, ok := to[place]
		if !ok {
			want = -1
		}
		wantGiven(t, "of book", s, place, want)
	}
}

func TestFlat(t *testing.T) {
	s := newBook()
	for _, want := range [][]int{
		{book, head, title, body, left, one, word, two, right, empty, foot, note, box, gap, pass, photo},
		{cover, head, title, body, left, one, word, two, right, empty, foot, note, box, gap, pass, photo},
		{head, title},
		{blank},
		{body, left, one, word, two, right, empty},
		{right, empty},
		{foot, note},
		{box, gap, pass, photo},
		{lid, gap, pass, photo},
		{gap, pass, photo},
		{pass, photo},
		{one, word},
		{lost},
		{stray, leaf},
	} {
		wantFlat(t, "of book", s, want...)
	}
}

// TestSlotIsTaken: what is shown changes with Marks and Tags alone.
func TestSlotIsTaken(t *testing.T) {
	s := newBook()
	s.Nodes[one].Mark, s.Nodes[two].Mark = 2, -1
	wantFlat(t, "given elsewhere", s, body, left, right, empty)
	wantFlat(t, "given elsewhere", s, foot, one, word)
	wantGiven(t, "given elsewhere", s, one, foot)
	wantGiven(t, "given nowhere", s, two, -1)
	s.Nodes[foot].Tag = api.FirstSlot - 1
	wantFlat(t, "a slot no more", s, foot, note)
	wantGiven(t, "a slot no more", s, one, -1)
}
