package tree_test

import (
	"reflect"
	"slices"
	"testing"

	"glasshouse/api"
	"glasshouse/store"
	"glasshouse/tree"
)

// copied is a store that shares nothing with another one.
func copied(s api.Store) api.Store {
	c := api.Store{Nodes: slices.Clone(s.Nodes)}
	for k, n := range s.Nodes {
		c.Nodes[k].Kids = slices.Clone(n.Kids)
	}
	return c
}

// rightStores calls visit with all right stores of four nodes, their Kids in either direction.
func rightStores(visit func(s api.Store)) {
	const places = 4
	ways := []int{nothing}
	for k := range places {
		ways = append(ways, k, rootOf(k))
	}
	for _, a := range ways {
		for _, b := range ways {
			for _, c := range ways {
				for _, d := range ways {
					s := grown(a, b, c, d)
					if store.Check(s) != api.OK {
						continue
					}
					visit(s)
					turned := copied(s)
					for k := range turned.Nodes {
						slices.Reverse(turned.Nodes[k].Kids)
					}
					visit(turned)
				}
			}
		}
	}
}

// has tells whether a place is among those of a node and all under it, roots too: told from above, by what stands right under what.
func has(s api.Store, top, place int) bool {
	if top == place {
		return true
	}
	for k, n := range s.Nodes {
		if (n.Parent == top || n.Host == top) && has(s, k, place) {
			return true
		}
	}
	return false
}

// inserted is what the chapter says of Insert, of hands that hold; ahead -1: last.
func inserted(s api.Store, parent, child, ahead int) (api.Store, api.Errno) {
	if s.Nodes[child].Host >= 0 || has(s, child, parent) || ahead >= 0 && s.Nodes[ahead].Parent != parent {
		return api.Store{}, api.ErrTree
	}
	if ahead == child {
		return s, api.OK
	}
	want := copied(s)
	for k := range want.Nodes {
		var kids []int
		for _, kid := range s.Nodes[k].Kids {
			if k == parent && kid == ahead {
				kids = append(kids, child)
			}
			if kid != child {
				kids = append(kids, kid)
			}
		}
		if k == parent && ahead < 0 {
			kids = append(kids, child)
		}
		want.Nodes[k].Kids = kids
	}
	want.Nodes[child].Parent = parent
	return want, api.OK
}

// TestAllInserts: of all right stores, all nodes into all others; stores stay stores, and who stood nowhere can be taken back.
func TestAllInserts(t *testing.T) {
	stores, inserts := 0, 0
	rightStores(func(s api.Store) {
		stores++
		for parent := range s.Nodes {
			for child := range s.Nodes {
				for ahead := -1; ahead < len(s.Nodes); ahead++ {
					want, wantE := inserted(s, parent, child, ahead)
					var before []api.Hand
					if ahead >= 0 {
						before = hands(ahead)
					}
					got, e := tree.Insert(s, on(parent), on(child), before)
					if e != wantE || !store.Same(got, want) {
						t.Fatalf("of %+v, %d into %d ahead of %d: %+v, errno %d, want %+v, %d", s, child, parent, ahead, got, e, want, wantE)
					}
					if e == api.OK {
						inserts++
						takeBack(t, s, got, child)
					}
				}
			}
		}
	})
	if stores < 1000 || inserts < 9000 {
		t.Errorf("%d stores, %d inserts: too few", stores, inserts)
	}
}

// takeBack removes what was put into a store.
func takeBack(t *testing.T, s, put api.Store, child int) {
	t.Helper()
	if e := store.Check(put); e != api.OK {
		t.Fatalf("of %+v, after an insert of %d: Check answers %d of %+v", s, child, e, put)
	}
	back, e := tree.Remove(put, on(child))
	if e != api.OK || store.Check(back) != api.OK || back.Nodes[child].Parent != -1 {
		t.Fatalf("of %+v, %d taken back: %+v, errno %d", put, child, back, e)
	}
	want := s
	if s.Nodes[child].Parent >= 0 {
		want, _ = tree.Remove(s, on(child))
	}
	if !store.Same(back, want) {
		t.Fatalf("of %+v, %d taken back: %+v, want %+v", put, child, back, want)
	}
}

// TestAllOrders: of all right stores, all nodes: each of those under it by Parents once, each right behind what its Parent and the ones ahead of it have.
func TestAllOrders(t *testing.T) {
	var order func(s api.Store, place int) []int
	order = func(s api.Store, place int) []int {
		l := []int{place}
		for _, kid := range s.Nodes[place].Kids {
			l = slices.Concat(l, order(s, kid))
		}
		return l
	}
	rightStores(func(s api.Store) {
		for place := range s.Nodes {
			got, e := tree.Order(s, on(place))
			if want := order(s, place); e != api.OK || !slices.Equal(got, want) {
				t.Fatalf("of %+v, the order of %d: %v, errno %d, want %v", s, place, got, e, want)
			}
		}
	})
}

// roomy is a store whose lists have spare room behind them, with something in it; and all of that room.
func roomy() (api.Store, []api.Hand, func() []any) {
	s := grown(nothing, 0, 0, 0, nothing)
	kids := append(slices.Clone(s.Nodes[0].Kids), 70, 71)
	s.Nodes[0].Kids = kids[:3]
	for _, k := range []int{1, 2, 3, 4} {
		s.Nodes[k].Kids = kids[3:3]
	}
	nodes := append(slices.Clone(s.Nodes), api.Node{Uses: 80}, api.Node{Uses: 81})
	s.Nodes = nodes[:5]
	ahead := append(hands(2), on(90), on(91), on(92))
	return s, ahead[:1], func() []any { return []any{kids, nodes, ahead} }
}

// spoil writes over all that a store has, and behind it.
func spoil(s api.Store) {
	for k := range s.Nodes {
		kids := s.Nodes[k].Kids
		for j := range kids[:cap(kids)] {
			kids[:cap(kids)][j] = -77
		}
	}
	for k := range s.Nodes[:cap(s.Nodes)] {
		s.Nodes[:cap(s.Nodes)][k] = api.Node{Uses: -77}
	}
}

// TestNothingIsSharedOrChanged: what was handed in stays as it was, whatever is done to the answers, and these share nothing within.
func TestNothingIsSharedOrChanged(t *testing.T) {
	calls := map[string]func(s api.Store, ahead []api.Hand) (api.Store, api.Errno){
		"Insert last": func(s api.Store, _ []api.Hand) (api.Store, api.Errno) {
			return tree.Insert(s, on(0), on(4), nil)
		},
		"Insert into what has nothing": func(s api.Store, _ []api.Hand) (api.Store, api.Errno) {
			return tree.Insert(s, on(4), on(0), nil)
		},
		"Insert ahead": func(s api.Store, ahead []api.Hand) (api.Store, api.Errno) {
			return tree.Insert(s, on(0), on(4), ahead)
		},
		"Insert within": func(s api.Store, ahead []api.Hand) (api.Store, api.Errno) {
			return tree.Insert(s, on(0), on(1), ahead)
		},
		"Insert ahead of itself": func(s api.Store, ahead []api.Hand) (api.Store, api.Errno) {
			return tree.Insert(s, on(0), on(2), ahead)
		},
		"Insert with an error": func(s api.Store, ahead []api.Hand) (api.Store, api.Errno) {
			_, e := tree.Insert(s, on(4), on(0), ahead)
			return api.Store{}, e - api.ErrTree
		},
		"Remove": func(s api.Store, _ []api.Hand) (api.Store, api.Errno) {
			return tree.Remove(s, on(2))
		},
		"Order": func(s api.Store, _ []api.Hand) (api.Store, api.Errno) {
			order, e := tree.Order(s, on(0))
			return api.Store{Nodes: []api.Node{{Kids: order}}}, e
		},
	}
	for what, call := range calls {
		s, ahead, room := roomy()
		asWas, _, roomWas := roomy()
		answer, e := call(s, ahead)
		kept := copied(answer)
		for k := range answer.Nodes {
			longer := append(answer.Nodes[k].Kids, -78)
			answer.Nodes[k].Kids = longer[:len(longer)-1]
		}
		if e != api.OK || !store.Same(answer, kept) {
			t.Errorf("%s: errno %d, or lists that share memory: %+v", what, e, answer)
		}
		spoil(answer)
		if !reflect.DeepEqual(room(), roomWas()) || !store.Same(s, asWas) {
			t.Errorf("%s: what was handed in is %+v, want %+v", what, room(), roomWas())
		}
	}
}
