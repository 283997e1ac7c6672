package store_test

import (
	"math"
	"reflect"
	"testing"

	"glasshouse/api"
	"glasshouse/store"
)

// node is one in use that stands nowhere.
func node() api.Node { return api.Node{Used: true, Uses: 1, Parent: -1, Host: -1} }

// empty is a place that nothing was ever in.
func empty() api.Node { return api.Node{Parent: -1, Host: -1} }

// kid is a node with a Parent, and Kids.
func kid(parent int, kids ...int) api.Node {
	n := node()
	n.Parent, n.Kids = parent, kids
	return n
}

// root is a node with a Host, and Kids.
func root(host int, kids ...int) api.Node {
	n := node()
	n.Host, n.Kids = host, kids
	return n
}

// with is a node after a change.
func with(n api.Node, change func(*api.Node)) api.Node {
	change(&n)
	return n
}

// of is a store of these nodes.
func of(nodes ...api.Node) api.Store { return api.Store{Nodes: nodes} }

// many is a store of so many places with the same in them.
func many(places int, n api.Node) api.Store {
	s := api.Store{}
	for range places {
		s.Nodes = append(s.Nodes, n)
	}
	return s
}

// used is a node in a place of so many uses.
func used(uses int) api.Node {
	return with(node(), func(n *api.Node) { n.Uses = uses })
}

// left is an empty place of so many uses.
func left(uses int) api.Node {
	return with(empty(), func(n *api.Node) { n.Uses = uses })
}

func wantErrno(t *testing.T, what string, got, want api.Errno) {
	t.Helper()
	if got != want {
		t.Errorf("%s: errno %d, want %d", what, got, want)
	}
}

func wantStore(t *testing.T, what string, got, want api.Store) {
	t.Helper()
	if !store.Same(got, want) {
		t.Errorf("%s: %+v, want %+v", what, got, want)
	}
}

// wantZero: with an error all else is zero.
func wantZero(t *testing.T, what string, got any) {
	t.Helper()
	if !reflect.ValueOf(got).IsZero() {
		t.Errorf("%s: %+v beside an error, want zero", what, got)
	}
}

func TestNew(t *testing.T) {
	for places := range api.MaxNodes + 1 {
		s, e := store.New(places)
		wantErrno(t, "new", e, api.OK)
		wantStore(t, "new", s, many(places, empty()))
		wantErrno(t, "check of a new one", store.Check(s), api.OK)
	}
	for _, places := range []int{-1, api.MaxNodes + 1, math.MinInt, math.MaxInt} {
		s, e := store.New(places)
		wantErrno(t, "new, out of range", e, api.ErrRange)
		wantZero(t, "new, out of range", s)
	}
}

func TestMake(t *testing.T) {
	s, _ := store.New(3)
	for place, tag := range []int{0, api.MaxTag, 7} {
		made, h, e := store.Make(s, tag)
		wantErrno(t, "make", e, api.OK)
		if want := (api.Hand{Place: place, Use: 1}); h != want {
			t.Errorf("make: hand %+v, want %+v", h, want)
		}
		s.Nodes[place] = with(node(), func(n *api.Node) { n.Tag = tag })
		wantStore(t, "make", made, s)
		wantErrno(t, "check of what was made", store.Check(made), api.OK)
	}
}

func TestMakeTakesTheFirstPlaceThatCan(t *testing.T) {
	s := of(used(3), left(api.MaxUses), used(1), left(api.MaxUses-1), left(0))
	made, h, e := store.Make(s, 5)
	wantErrno(t, "make", e, api.OK)
	if want := (api.Hand{Place: 3, Use: api.MaxUses}); h != want {
		t.Errorf("make: hand %+v, want %+v", h, want)
	}
	s.Nodes[3] = with(used(api.MaxUses), func(n *api.Node) { n.Tag = 5 })
	wantStore(t, "make", made, s)
}

func TestMakeWrong(t *testing.T) {
	full := of(used(1), left(api.MaxUses))
	cases := []struct {
		what string
		s    api.Store
		tag  int
		want api.Errno
	}{
		{"tag below", of(empty()), -1, api.ErrRange},
		{"tag above", of(empty()), api.MaxTag + 1, api.ErrRange},
		{"tag far below", of(empty()), math.MinInt, api.ErrRange},
		{"no place can", full, 0, api.ErrMany},
		{"no place at all", api.Store{}, 0, api.ErrMany},
		{"the tag is told first", full, -1, api.ErrRange},
	}
	for _, c := range cases {
		s, h, e := store.Make(c.s, c.tag)
		wantErrno(t, c.what, e, c.want)
		wantZero(t, c.what, s)
		wantZero(t, c.what, h)
	}
}

// wrongStores are some of each error that Check has.
func wrongStores() map[string]api.Store {
	closed := with(node(), func(n *api.Node) { n.Closed = true })
	return map[string]api.Store{
		"too many":                   many(api.MaxNodes+1, empty()),
		"too many, the first in use": {Nodes: append([]api.Node{node()}, many(api.MaxNodes, empty()).Nodes...)},
		"Uses out of range":          of(used(math.MaxInt), empty()),
		"Uses below 0":               of(node(), left(-5)),
		"a tag out of range":         of(with(node(), func(n *api.Node) { n.Tag = api.MaxTag + 1 }), empty()),
		"a mark out of range":        of(node(), empty(), with(node(), func(n *api.Node) { n.Mark = api.MaxValue + 1 })),
		"no such kid":                of(kid(-1, 9), empty()),
		"no such parent":             of(kid(-7), empty()),
		"no such host":               of(node(), root(99), empty()),
		"zero":                       of(node(), api.Node{}),
		"closed, no host":            of(closed, empty()),
		"a tag, not used":            of(node(), with(empty(), func(n *api.Node) { n.Tag = 5 })),
		"a host, not used":           of(node(), with(empty(), func(n *api.Node) { n.Host = 0 })),
		"a host and a parent":        of(kid(-1, 1), with(kid(0), func(n *api.Node) { n.Host = 0 }), empty()),
		"used, no uses":              of(node(), used(0), empty()),
		"in nobody's kids":           of(node(), kid(0), empty()),
		"a child that is -1":         of(kid(-1, -1), empty()),
		"a host of two":              of(node(), root(0), root(0), empty()),
		"a ring":                     of(kid(1, 1), kid(0, 0), empty()),
		"a ring far from the first":  of(node(), root(2), root(1), empty()),
	}
}

// TestTheOthersSayItFirst: what Check says of a store, Make, Find and Free say ahead of all that is theirs; Holds and Same take any store.
func TestTheOthersSayItFirst(t *testing.T) {
	for what, s := range wrongStores() {
		want := store.Check(s)
		if want == api.OK {
			t.Errorf("%s: Check says nothing", what)
		}
		for _, tag := range []int{0, api.MaxTag, -1, api.MaxTag + 1, math.MinInt} {
			made, h, e := store.Make(s, tag)
			wantErrno(t, what+": make", e, want)
			wantZero(t, what+": make", made)
			wantZero(t, what+": make", h)
		}
		for _, h := range []api.Hand{{Place: 0, Use: 1}, {Place: 1, Use: 1}, {Place: 0, Use: 2}, {}, {Place: -1, Use: 1}, {Place: 90, Use: 1}} {
			n, e := store.Find(s, h)
			wantErrno(t, what+": find", e, want)
			wantZero(t, what+": find", n)
			freed, e := store.Free(s, h)
			wantErrno(t, what+": free", e, want)
			wantZero(t, what+": free", freed)
		}
		if !store.Same(s, s) || store.Same(s, of(node())) {
			t.Errorf("%s: Same doesn't take it", what)
		}
	}
}

func TestHolds(t *testing.T) {
	s := of(used(3), left(2), empty())
	cases := []struct {
		place, use int
		want       api.Errno
	}{
		{0, 3, api.OK},
		{0, 2, api.ErrGone},
		{0, 1, api.ErrGone},
		{0, 0, api.ErrWho},
		{0, -1, api.ErrWho},
		{0, 4, api.ErrWho},
		{1, 2, api.ErrGone},
		{1, 1, api.ErrGone},
		{1, 3, api.ErrWho},
		{2, 0, api.ErrWho},
		{2, 1, api.ErrWho},
		{3, 1, api.ErrWho},
		{-1, 1, api.ErrWho},
		{math.MinInt, 1, api.ErrWho},
		{math.MaxInt, 1, api.ErrWho},
	}
	for _, c := range cases {
		h := api.Hand{Place: c.place, Use: c.use}
		if got := store.Holds(s, h); got != c.want {
			t.Errorf("holds %+v: %d, want %d", h, got, c.want)
		}
		n, found := store.Find(s, h)
		wantErrno(t, "find says what holds says", found, c.want)
		if c.want != api.OK {
			wantZero(t, "find", n)
			freed, e := store.Free(s, h)
			wantErrno(t, "free says what find says", e, c.want)
			wantZero(t, "free", freed)
		}
	}
	wantErrno(t, "no place at all", store.Holds(api.Store{}, api.Hand{Use: 1}), api.ErrWho)
}

// TestHoldsTakesAnyStore: what else is wrong with a store says nothing of a hand.
func TestHoldsTakesAnyStore(t *testing.T) {
	s := many(api.MaxNodes+1, kid(-9, 99))
	s.Nodes[0] = api.Node{Used: true, Uses: -1}
	s.Nodes[1] = api.Node{Used: true, Uses: math.MaxInt}
	s.Nodes[2] = with(left(4), func(n *api.Node) { n.Host = 2 })
	for h, want := range map[api.Hand]api.Errno{
		{Place: 0, Use: -1}:               api.ErrWho,
		{Place: 0, Use: 1}:                api.ErrWho,
		{Place: 1, Use: math.MaxInt}:      api.OK,
		{Place: 1, Use: math.MaxInt - 1}:  api.ErrGone,
		{Place: 2, Use: 4}:                api.ErrGone,
		{Place: 3, Use: 1}:                api.OK,
		{Place: api.MaxNodes, Use: 1}:     api.OK,
		{Place: api.MaxNodes + 1, Use: 1}: api.ErrWho,
	} {
		if got := store.Holds(s, h); got != want {
			t.Errorf("holds %+v: %d, want %d", h, got, want)
		}
	}
}

func TestFind(t *testing.T) {
	child := api.Node{Used: true, Uses: 2, Tag: 8, Mark: -4, Parent: 3, Kids: []int{2, 0}, Host: -1}
	closed := api.Node{Used: true, Uses: 3, Tag: 1, Mark: api.MaxValue, Parent: -1, Kids: []int{1}, Host: 4, Closed: true}
	s := of(kid(1), child, kid(1), closed, node())
	for place, n := range s.Nodes {
		got, e := store.Find(s, api.Hand{Place: place, Use: n.Uses})
		wantErrno(t, "find", e, api.OK)
		wantStore(t, "find", of(got), of(n))
	}
}

func TestFree(t *testing.T) {
	full := api.Node{Used: true, Uses: 7, Tag: 4, Mark: -9, Parent: -1, Host: -1}
	s := of(kid(-1, 1), kid(0), full, root(0))
	freed, e := store.Free(s, api.Hand{Place: 2, Use: 7})
	wantErrno(t, "free", e, api.OK)
	s.Nodes[2] = left(7)
	wantStore(t, "free", freed, s)
	wantErrno(t, "check of what was freed", store.Check(freed), api.OK)

	freed, e = store.Free(of(used(api.MaxUses)), api.Hand{Place: 0, Use: api.MaxUses})
	wantErrno(t, "free of the last use", e, api.OK)
	wantStore(t, "free of the last use", freed, of(left(api.MaxUses)))
}

func TestFreeWrong(t *testing.T) {
	s := of(kid(-1, 1), kid(0), node(), root(2))
	for place, what := range []string{"it has a child", "it is a child", "it is a host", "it is a root"} {
		freed, e := store.Free(s, api.Hand{Place: place, Use: 1})
		wantErrno(t, what, e, api.ErrTree)
		wantZero(t, what, freed)
	}
}

func TestSame(t *testing.T) {
	full := api.Node{Used: true, Uses: 2, Tag: 3, Mark: 4, Parent: 5, Kids: []int{6, 7}, Host: 8, Closed: true}
	if !store.Same(of(empty(), full), of(empty(), with(full, func(n *api.Node) { n.Kids = []int{6, 7} }))) {
		t.Error("a store isn't the same as its like")
	}
	changes := map[string]func(*api.Node){
		"Used":         func(n *api.Node) { n.Used = false },
		"Uses":         func(n *api.Node) { n.Uses = 1 },
		"Tag":          func(n *api.Node) { n.Tag = 1 },
		"Mark":         func(n *api.Node) { n.Mark = -4 },
		"Parent":       func(n *api.Node) { n.Parent = 1 },
		"a kid":        func(n *api.Node) { n.Kids = []int{6, 8} },
		"kids' order":  func(n *api.Node) { n.Kids = []int{7, 6} },
		"a kid fewer":  func(n *api.Node) { n.Kids = []int{6} },
		"a kid more":   func(n *api.Node) { n.Kids = []int{6, 7, 7} },
		"no kid":       func(n *api.Node) { n.Kids = nil },
		"Host":         func(n *api.Node) { n.Host = 1 },
		"Closed":       func(n *api.Node) { n.Closed = false },
		"all of these": func(n *api.Node) { *n = api.Node{} },
	}
	for what, change := range changes {
		a, b := of(empty(), full), of(empty(), with(full, change))
		if store.Same(a, b) || store.Same(b, a) {
			t.Errorf("the same, with another %s", what)
		}
	}
}

func TestSameOfLists(t *testing.T) {
	bare := with(node(), func(n *api.Node) { n.Kids = []int{} })
	if !store.Same(of(bare), of(node())) || !store.Same(api.Store{}, api.Store{Nodes: []api.Node{}}) {
		t.Error("a list of nothing isn't like another one")
	}
	for _, pair := range [][2]api.Store{{of(), of(empty())}, {of(node()), of(node(), empty())}, {of(node(), empty()), of(empty(), node())}} {
		if store.Same(pair[0], pair[1]) || store.Same(pair[1], pair[0]) {
			t.Errorf("the same: %+v", pair)
		}
	}
	if wild := many(1000, api.Node{Uses: math.MinInt}); !store.Same(wild, wild) {
		t.Error("a wrong store isn't the same as itself")
	}
}

// TestHandsHoldOneNode tries all ways to make and free, some steps far: a hand that was given once holds the node that it was given on, and nothing once that is gone.
func TestHandsHoldOneNode(t *testing.T) {
	type given struct {
		h    api.Hand
		tag  int
		gone bool
	}
	var try func(s api.Store, hands []given, steps int)
	try = func(s api.Store, hands []given, steps int) {
		wantErrno(t, "check", store.Check(s), api.OK)
		for k, g := range hands {
			n, e := store.Find(s, g.h)
			if g.gone && e != api.ErrGone || !g.gone && (e != api.OK || n.Tag != g.tag) {
				t.Fatalf("hand %d of %+v: node %+v, errno %d, in %+v", k, hands, n, e, s)
			}
		}
		if steps == 0 {
			return
		}
		if made, h, e := store.Make(s, len(hands)); e == api.OK {
			try(made, append(hands[:len(hands):len(hands)], given{h: h, tag: len(hands)}), steps-1)
		}
		for k, g := range hands {
			if g.gone {
				continue
			}
			freed, e := store.Free(s, g.h)
			wantErrno(t, "free", e, api.OK)
			after := append([]given(nil), hands...)
			after[k].gone = true
			try(freed, after, steps-1)
		}
	}
	try(of(empty(), left(api.MaxUses-2), left(5)), nil, 8)
}
