package realm_test

import (
	"math"
	"slices"
	"testing"

	"glasshouse/api"
	"glasshouse/realm"
	"glasshouse/store"
)

// act is one of this kind.
func act(kind, a, b, c, n int) api.Act { return api.Act{Kind: kind, A: a, B: b, C: c, N: n} }

// kinds are those that realms do.
var kinds = []int{api.Make, api.Free, api.Insert, api.Remove, api.Set, api.Get, api.Host, api.Up, api.Take, api.Count, api.Flat}

// otherKinds are those that realms don't do, and some of what is no kind.
var otherKinds = []int{
	api.Ask, api.Tell, api.Reach, api.Leave, api.Open, api.Pass, api.Push, api.Pull, api.Shut, api.Go,
	math.MinInt, -1, 0, 22, 23, math.MaxInt,
}

// noHands is some of what is no hand.
var noHands = []int{math.MinInt, -2, -1, api.MaxHands, api.MaxHands + 1, math.MaxInt}

// These are hands of the house; hand k holds the node at place k up to slotted.
const (
	top     = 0
	list    = 1 // top's first child, of the tag 5
	item    = 2 // top's second child, of the tag 5
	sub     = 3 // item's child
	root    = 4 // top's closed root
	slotted = 5 // root's child, a slot of the number 7, which item is given to
	alone   = 6
	spent   = 7 // what it held is gone, and its place is in use again
	freed   = 8 // what it held is gone, and nothing is in its place
	blank   = 9 // never held anything
)

// house is a right realm of nine places, of which one was never used.
func house() api.Realm {
	nodes := []api.Node{
		{Used: true, Uses: 1, Tag: 4, Parent: -1, Host: -1, Kids: []int{1, 2}},
		{Used: true, Uses: 1, Tag: 5, Mark: 3, Parent: 0, Host: -1},
		{Used: true, Uses: 2, Tag: 5, Mark: 7, Parent: 0, Host: -1, Kids: []int{3}},
		{Used: true, Uses: 1, Tag: 5, Mark: 7, Parent: 2, Host: -1},
		{Used: true, Uses: 1, Parent: -1, Host: 0, Closed: true, Kids: []int{5}},
		{Used: true, Uses: 3, Tag: api.FirstSlot + 7, Parent: 4, Host: -1},
		{Used: true, Uses: 2, Tag: 6, Mark: -5, Parent: -1, Host: -1},
		{Uses: 4, Parent: -1, Host: -1},
		{Parent: -1, Host: -1},
	}
	hands := make([]api.Hand, api.MaxHands)
	for k := range 7 {
		hands[k] = api.Hand{Place: k, Use: nodes[k].Uses}
	}
	hands[spent] = api.Hand{Place: 6, Use: 1}
	hands[freed] = api.Hand{Place: 7, Use: 4}
	in := api.Graph{Cells: []api.Cell{{N: 2, Kids: []int{1, 1}}, {N: -api.MaxValue}, {N: 9, Kids: []int{0}}}}
	return api.Realm{S: api.Store{Nodes: nodes}, Hands: hands, In: in, Told: []int{8, -3}}
}

// with is the house, but for what is done to it.
func with(do func(r *api.Realm)) api.Realm {
	r := house()
	do(&r)
	return r
}

// wantDone: this realm, and this is told, and nothing is wrong.
func wantDone(t *testing.T, what string, r api.Realm, x api.Act, want api.Realm, wantTold int) {
	t.Helper()
	got, told, e := realm.Do(r, x)
	if e != api.OK || told != wantTold || !realm.Same(got, want) {
		t.Errorf("%s: %+v: %+v, told %d, errno %d, want %+v, told %d", what, x, got, told, e, want, wantTold)
	}
	if e := realm.Check(got); e != api.OK {
		t.Errorf("%s: %+v: what is answered is wrong: errno %d", what, x, e)
	}
}

// wantNone: that error, and nothing beside it.
func wantNone(t *testing.T, what string, r api.Realm, x api.Act, want api.Errno) {
	t.Helper()
	got, told, e := realm.Do(r, x)
	if e != want || told != 0 || !isZero(got) {
		t.Errorf("%s: %+v: %+v, told %d, errno %d, want errno %d", what, x, got, told, e, want)
	}
}

// isZero tells whether there is nothing in a realm.
func isZero(r api.Realm) bool {
	return r.S.Nodes == nil && r.Hands == nil && r.In.Cells == nil && r.Told == nil
}

func TestNew(t *testing.T) {
	for places := range api.MaxNodes + 1 {
		r, e := realm.New(places)
		s, _ := store.New(places)
		if e != api.OK || !realm.Same(r, api.Realm{S: s, Hands: make([]api.Hand, 16)}) || len(r.S.Nodes) != places || realm.Check(r) != api.OK {
			t.Errorf("%d places: %+v, errno %d", places, r, e)
		}
	}
	for _, places := range []int{math.MinInt, -1, api.MaxNodes + 1, math.MaxInt} {
		if r, e := realm.New(places); e != api.ErrRange || !isZero(r) {
			t.Errorf("%d places: %+v, errno %d", places, r, e)
		}
	}
}

// TestNewHoldsNothing: no hand of a new realm holds anything, even when there is a node.
func TestNewHoldsNothing(t *testing.T) {
	r, _ := realm.New(2)
	r, _, e := realm.Do(r, act(api.Make, 3, 0, 0, 0))
	if e != api.OK {
		t.Fatal(e)
	}
	for k := range api.MaxHands {
		if k == 3 {
			continue
		}
		for _, kind := range []int{api.Free, api.Remove, api.Set, api.Get, api.Host, api.Up, api.Count, api.Flat} {
			wantNone(t, "a hand of a new realm", r, act(kind, k, 4, -1, 0), api.ErrWho)
		}
	}
}

// wrong is a realm that Check refuses.
type wrong struct {
	what string
	r    api.Realm
	want api.Errno
}

// wrongRealms is realms with one thing wrong, or with two, of which one is told first.
func wrongRealms() []wrong {
	badStore := func(r *api.Realm) { r.S.Nodes[1].Mark = api.MaxValue + 1 }
	badHands := func(r *api.Realm) { r.Hands = r.Hands[:15] }
	badIn := func(r *api.Realm) { r.In.Cells[2].Kids[0] = 3 }
	badTold := func(r *api.Realm) { r.Told = make([]int, api.MaxProgram*api.MaxScript+1) }
	all := func(faults ...func(r *api.Realm)) api.Realm {
		return with(func(r *api.Realm) {
			for _, fault := range faults {
				fault(r)
			}
		})
	}
	return []wrong{
		{"nothing", api.Realm{}, api.ErrForm},
		{"too many places", with(func(r *api.Realm) { r.S.Nodes = make([]api.Node, 25) }), api.ErrMany},
		{"a mark out of range", all(badStore), api.ErrRange},
		{"no such parent", with(func(r *api.Realm) { r.S.Nodes[1].Parent = 9 }), api.ErrWho},
		{"a tag, not used", with(func(r *api.Realm) { r.S.Nodes[7].Tag = 1 }), api.ErrForm},
		{"in two Kids", with(func(r *api.Realm) { r.S.Nodes[6].Kids = []int{1} }), api.ErrTree},
		{"no hands", with(func(r *api.Realm) { r.Hands = nil }), api.ErrForm},
		{"a hand fewer", all(badHands), api.ErrForm},
		{"a hand more", with(func(r *api.Realm) { r.Hands = append(r.Hands, r.Hands[0]) }), api.ErrForm},
		{"far too many hands", with(func(r *api.Realm) { r.Hands = make([]api.Hand, 100000) }), api.ErrForm},
		{"too many cells", with(func(r *api.Realm) { r.In.Cells = make([]api.Cell, 25) }), api.ErrMany},
		{"a number out of range", with(func(r *api.Realm) { r.In.Cells[1].N-- }), api.ErrRange},
		{"too many kids of a cell", with(func(r *api.Realm) { r.In.Cells[1].Kids = make([]int, 9) }), api.ErrMany},
		{"no such cell", all(badIn), api.ErrWho},
		{"told too much", all(badTold), api.ErrMany},
		{"told far too much", with(func(r *api.Realm) { r.Told = make([]int, 200000) }), api.ErrMany},
		{"store, hands", all(badStore, badHands), api.ErrRange},
		{"store, in", all(badStore, badIn), api.ErrRange},
		{"store, told", all(badStore, badTold), api.ErrRange},
		{"hands, in", all(badHands, badIn), api.ErrForm},
		{"hands, told", all(badHands, badTold), api.ErrForm},
		{"in, told", all(badIn, badTold), api.ErrWho},
		{"all", all(badStore, badHands, badIn, badTold), api.ErrRange},
	}
}

func TestCheckRight(t *testing.T) {
	for what, r := range map[string]api.Realm{
		"the house":              house(),
		"no places":              {Hands: make([]api.Hand, 16)},
		"told as much as may be": with(func(r *api.Realm) { r.Told = make([]int, 4800) }),
		"told wild numbers":      with(func(r *api.Realm) { r.Told = []int{math.MinInt, math.MaxInt} }),
		"nothing came":           with(func(r *api.Realm) { r.In = api.Graph{} }),
		"hands on what isn't there": with(func(r *api.Realm) {
			for k := range r.Hands {
				r.Hands[k] = api.Hand{Place: noHands[k%len(noHands)], Use: noHands[k/2%len(noHands)]}
			}
		}),
	} {
		if e := realm.Check(r); e != api.OK {
			t.Errorf("%s: errno %d", what, e)
		}
	}
}

// TestCheckWrong: each error, which of them is told first, and that Do says it ahead of all else.
func TestCheckWrong(t *testing.T) {
	for _, c := range wrongRealms() {
		if e := realm.Check(c.r); e != c.want {
			t.Errorf("%s: errno %d, want %d", c.what, e, c.want)
		}
		for _, kind := range slices.Concat(kinds, otherKinds) {
			for _, a := range append([]int{0, blank, 15}, noHands...) {
				wantNone(t, c.what, c.r, act(kind, a, 1, -1, 1), c.want)
				wantNone(t, c.what, c.r, act(kind, a, -1, 99, -1), c.want)
			}
		}
	}
}

func TestSame(t *testing.T) {
	if !realm.Same(house(), house()) {
		t.Error("a realm isn't the same as its like")
	}
	none := api.Realm{S: api.Store{Nodes: []api.Node{}}, Hands: []api.Hand{}, In: api.Graph{Cells: []api.Cell{}}, Told: []int{}}
	if !realm.Same(api.Realm{}, none) || !realm.Same(none, api.Realm{}) {
		t.Error("nothing isn't the same as nothing")
	}
	for what, do := range map[string]func(r *api.Realm){
		"used":        func(r *api.Realm) { r.S.Nodes[8].Used = true },
		"uses":        func(r *api.Realm) { r.S.Nodes[8].Uses = 1 },
		"tag":         func(r *api.Realm) { r.S.Nodes[0].Tag = 5 },
		"mark":        func(r *api.Realm) { r.S.Nodes[6].Mark = 5 },
		"parent":      func(r *api.Realm) { r.S.Nodes[3].Parent = 1 },
		"child":       func(r *api.Realm) { r.S.Nodes[0].Kids[0] = 2 },
		"host":        func(r *api.Realm) { r.S.Nodes[4].Host = 1 },
		"closed":      func(r *api.Realm) { r.S.Nodes[4].Closed = false },
		"place fewer": func(r *api.Realm) { r.S.Nodes = r.S.Nodes[:8] },
		"hand's place": func(r *api.Realm) {
			r.Hands[15].Place = 1
		},
		"hand's use": func(r *api.Realm) { r.Hands[0].Use = 2 },
		"hand fewer": func(r *api.Realm) { r.Hands = r.Hands[:15] },
		"number":     func(r *api.Realm) { r.In.Cells[2].N = 8 },
		"kid":        func(r *api.Realm) { r.In.Cells[0].Kids[1] = 2 },
		"cell fewer": func(r *api.Realm) { r.In.Cells = r.In.Cells[:2] },
		"told":       func(r *api.Realm) { r.Told[1] = 3 },
		"told more":  func(r *api.Realm) { r.Told = append(r.Told, 0) },
		"told order": func(r *api.Realm) { r.Told[0], r.Told[1] = r.Told[1], r.Told[0] },
		"no store":   func(r *api.Realm) { r.S = api.Store{} },
		"no hands":   func(r *api.Realm) { r.Hands = nil },
		"no message": func(r *api.Realm) { r.In = api.Graph{} },
		"nothing told": func(r *api.Realm) {
			r.Told = nil
		},
	} {
		if realm.Same(house(), with(do)) || realm.Same(with(do), house()) {
			t.Errorf("the same, with another: %s", what)
		}
	}
}

// TestSameTakesAny: wrong realms, too.
func TestSameTakesAny(t *testing.T) {
	for _, c := range wrongRealms() {
		if !realm.Same(c.r, c.r) || realm.Same(c.r, house()) || realm.Same(house(), c.r) {
			t.Errorf("%s: not the same as itself, or the same as the house", c.what)
		}
	}
}

// TestNoHandA: what is no hand is told ahead of what is no kind, and of all else.
func TestNoHandA(t *testing.T) {
	for _, kind := range slices.Concat(kinds, otherKinds) {
		for _, a := range noHands {
			for _, other := range append([]int{0, 1, 100}, noHands...) {
				wantNone(t, "no hand A", house(), act(kind, a, other, other, other), api.ErrWho)
			}
		}
	}
}

// TestNoKind: whatever the hands hold, and whether there are such ones.
func TestNoKind(t *testing.T) {
	for _, kind := range otherKinds {
		for _, a := range []int{top, spent, freed, blank, 15} {
			for _, other := range append([]int{0, 1, 100}, noHands...) {
				wantNone(t, "no kind", house(), act(kind, a, other, other, other), api.ErrForm)
			}
		}
	}
}
