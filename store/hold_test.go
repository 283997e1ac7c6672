package store_test

import (
	"math"
	"reflect"
	"testing"

	"glasshouse/api"
	"glasshouse/store"
)

// roomy is a store whose lists have spare room behind them, with something in it: behind one node's Kids are another one's.
func roomy() (api.Store, func() []int, func() []api.Node) {
	shared := []int{1, 2, 6, 70, 71}
	nodes := append(make([]api.Node, 0, 10), kid(-1, shared[:2]...), kid(0), kid(0), node(), empty(), kid(-1, shared[2:3]...), kid(5), used(40), used(41))
	nodes[3].Kids = shared[:0]
	nodes[4].Kids = shared[3:3]
	return api.Store{Nodes: nodes[:7]}, func() []int { return shared }, func() []api.Node { return nodes }
}

func TestRoomyIsRight(t *testing.T) {
	s, _, _ := roomy()
	wantErrno(t, "check", store.Check(s), api.OK)
}

// spoil writes over all that an answer has, and behind it.
func spoil(s api.Store) {
	for k, n := range s.Nodes {
		for j := range n.Kids[:cap(n.Kids)] {
			n.Kids[:cap(n.Kids)][j] = -77
		}
		s.Nodes[k].Kids = append(n.Kids, -77)
	}
	for k := range s.Nodes[:cap(s.Nodes)] {
		s.Nodes[:cap(s.Nodes)][k] = api.Node{Uses: -77}
	}
}

// TestNothingIsSharedOrChanged: what was handed in stays as it was, whatever is done to the answers.
func TestNothingIsSharedOrChanged(t *testing.T) {
	calls := map[string]func(s api.Store) api.Store{
		"Make": func(s api.Store) api.Store {
			made, _, _ := store.Make(s, 9)
			return made
		},
		"Free": func(s api.Store) api.Store {
			freed, _ := store.Free(s, api.Hand{Place: 3, Use: 1})
			return freed
		},
		"Find": func(s api.Store) api.Store {
			n, _ := store.Find(s, api.Hand{Place: 0, Use: 1})
			return of(n)
		},
		"Check": func(s api.Store) api.Store {
			store.Check(s)
			return api.Store{}
		},
		"Same": func(s api.Store) api.Store {
			store.Same(s, s)
			return api.Store{}
		},
	}
	for what, call := range calls {
		s, lists, nodes := roomy()
		asWas, listsWas, nodesWas := roomy()
		answer := call(s)
		if len(answer.Nodes) == 0 && (what == "Make" || what == "Free" || what == "Find") {
			t.Errorf("%s: an error", what)
		}
		spoil(answer)
		if !reflect.DeepEqual(s, asWas) || !reflect.DeepEqual(lists(), listsWas()) || !reflect.DeepEqual(nodes(), nodesWas()) {
			t.Errorf("%s: what was handed in is %+v, %v, %+v", what, s, lists(), nodes())
		}
	}
}

// TestAnswersShareNothing: no list of an answer has to do with another one.
func TestAnswersShareNothing(t *testing.T) {
	s, _, _ := roomy()
	made, _, _ := store.Make(s, 9)
	made.Nodes[0].Kids = append(made.Nodes[0].Kids, 50)
	made.Nodes[3].Kids = append(made.Nodes[3].Kids, 51)
	if made.Nodes[5].Kids[0] != 6 || made.Nodes[0].Kids[0] != 1 {
		t.Error("two nodes of an answer share their Kids")
	}
	made.Nodes[0].Kids[0] = 50
	again, _, _ := store.Make(s, 9)
	if again.Nodes[0].Kids[0] != 1 {
		t.Error("two answers share memory")
	}
	a, _ := store.New(2)
	b, _ := store.New(2)
	a.Nodes[0].Uses = 5
	if b.Nodes[0].Uses != 0 {
		t.Error("two new stores share memory")
	}
}

// TestWildStores: no call panics, whatever it is given, and the same call answers the same.
func TestWildStores(t *testing.T) {
	wild := []int{math.MinInt, -2, -1, 0, 1, 2, math.MaxInt}
	for _, a := range wild {
		for _, b := range wild {
			for _, c := range wild {
				for _, in := range []bool{false, true} {
					n := api.Node{Used: in, Uses: a, Tag: b, Mark: c, Parent: b, Kids: []int{a, c, b, a}, Host: c, Closed: in}
					tryAll(t, of(n, node(), n), api.Hand{Place: b, Use: a})
					tryAll(t, of(node(), n), api.Hand{Place: 0, Use: 1})
				}
			}
		}
	}
}

// tryAll makes all calls twice, and holds the answers against each other.
func tryAll(t *testing.T, s api.Store, h api.Hand) {
	t.Helper()
	answers := func() []any {
		made, hand, e1 := store.Make(s, h.Use)
		found, e2 := store.Find(s, h)
		freed, e3 := store.Free(s, h)
		return []any{made, hand, e1, found, e2, freed, e3, store.Check(s), store.Holds(s, h), store.Same(s, made)}
	}
	if first, second := answers(), answers(); !reflect.DeepEqual(first, second) {
		t.Fatalf("of %+v, %+v: %+v, then %+v", s, h, first, second)
	}
}
