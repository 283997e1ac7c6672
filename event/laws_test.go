package event_test

import (
	"math"
	"reflect"
	"slices"
	"testing"

	"glasshouse/api"
	"glasshouse/event"
	"glasshouse/shadow"
	"glasshouse/store"
)

// allStores calls visit with all stores of so many nodes, each of them alone, or a child, or an open or closed root of any place up to this one; wrong stores are among them.
func allStores(nodes, last int, visit func(s api.Store)) {
	kinds := []api.Node{alone()}
	for at := range last + 1 {
		kinds = append(kinds, child(at), root(at, false), root(at, true))
	}
	var add func(l []api.Node)
	add = func(l []api.Node) {
		if len(l) == nodes {
			visit(of(slices.Clone(l)...))
			return
		}
		for _, n := range kinds {
			add(append(l[:len(l):len(l)], n))
		}
	}
	add(nil)
}

// rightStores calls visit with those of so many nodes that Check says nothing of.
func rightStores(nodes int, visit func(s api.Store)) {
	allStores(nodes, nodes-1, func(s api.Store) {
		if store.Check(s) == api.OK {
			visit(s)
		}
	})
}

// kindsOfHearers is how many hearers of one ID there are, at so many places.
func kindsOfHearers(places int) int { return places * 8 }

// hearerOf is one of them, by a number.
func hearerOf(kind, places, id int) api.Hearer {
	bits := kind / places
	return api.Hearer{Place: kind % places, Down: bits&1 != 0, Once: bits&2 != 0, Stops: bits&4 != 0, ID: id}
}

// allHearers calls visit with all lists of so many hearers at so many places.
func allHearers(many, places int, visit func(l []api.Hearer)) {
	kinds := kindsOfHearers(places)
	of := 1
	for range many {
		of *= kinds
	}
	for number := range of {
		var l []api.Hearer
		for k := range many {
			l = append(l, hearerOf(number%kinds, places, many-k))
			number /= kinds
		}
		visit(l)
	}
}

// someHearers is a list of so many hearers at so many places, another one at each turn. Few of them stop, that most events go far.
func someHearers(many, places, turn int) []api.Hearer {
	var l []api.Hearer
	for k := range many {
		turn = (turn*75 + 74) % 65537
		h := hearerOf(turn%kindsOfHearers(places), places, k*(k%2*2-1))
		h.Stops = h.Stops && turn%3 == 0
		l = append(l, h)
	}
	return l
}

// standsIn tells of two places whether the first is the second, or stands under it at any step.
func standsIn(s api.Store, place, above int) bool {
	for place != -1 {
		if place == above {
			return true
		}
		place = rightUnder(s, place)
	}
	return false
}

func rightUnder(s api.Store, place int) int {
	return max(s.Nodes[place].Parent, s.Nodes[place].Host)
}

// target is what chapter 4 says of what happened at k, told another place, of a right store, root by root.
func target(s api.Store, k, told int) int {
	for at := k; at != -1; at = rightUnder(s, at) {
		if s.Nodes[at].Host != -1 && !standsIn(s, told, at) {
			k = s.Nodes[at].Host
		}
	}
	return k
}

// stepOf tells at which step an event at a place comes by a hearer: 1 at the top, on the way down; 0: it never does.
func stepOf(s api.Store, place int, h api.Hearer) int {
	if !standsIn(s, place, h.Place) {
		return 0
	}
	depth := func(at int) int {
		d := 0
		for ; at != -1; at = rightUnder(s, at) {
			d++
		}
		return d
	}
	if h.Down {
		return depth(h.Place)
	}
	return 2*depth(place) - depth(h.Place) + 1
}

// dispatch is what the chapter says of a right store: told by the steps at which the hearers are come by, not by a way.
func dispatch(s api.Store, l []api.Hearer, place int) (calls []api.Call, left []api.Hearer) {
	last := math.MaxInt
	for _, h := range l {
		if step := stepOf(s, place, h); step > 0 && h.Stops {
			last = min(last, step)
		}
	}
	heard := slices.DeleteFunc(slices.Clone(l), func(h api.Hearer) bool {
		step := stepOf(s, place, h)
		return step == 0 || step > last
	})
	for _, h := range l {
		if !h.Once || !slices.Contains(heard, h) {
			left = append(left, h)
		}
	}
	slices.SortStableFunc(heard, func(a, b api.Hearer) int { return stepOf(s, place, a) - stepOf(s, place, b) })
	for _, h := range heard {
		call := api.Call{ID: h.ID, At: h.Place, Target: target(s, place, h.Place)}
		switch {
		case call.At == call.Target:
			call.Phase = 2
		case h.Down:
			call.Phase = 1
		default:
			call.Phase = 3
		}
		calls = append(calls, call)
	}
	return calls, left
}

// tally counts what was tried.
type tally struct{ events, calls, moved, left, hidden int }

// holdAll: events at all nodes are as the chapter says; and so nobody is told of what isn't seen from there.
func (c *tally) holdAll(t *testing.T, s api.Store, l []api.Hearer) {
	t.Helper()
	for place := range s.Nodes {
		c.events++
		calls, left, e := event.Dispatch(s, l, on(place))
		wantCalls, wantLeft := dispatch(s, l, place)
		if e != api.OK || !slices.Equal(calls, wantCalls) || !slices.Equal(left, wantLeft) {
			t.Fatalf("of %+v, %+v, an event at %d: %+v, %+v, errno %d, want %+v, %+v", s, l, place, calls, left, e, wantCalls, wantLeft)
		}
		c.calls += len(calls)
		c.left += len(l) - len(left)
		for _, call := range calls {
			if call.Target != place {
				c.moved++
			}
			if sees, e := shadow.Seen(s, on(call.At), on(call.Target)); !sees || e != api.OK {
				t.Fatalf("of %+v, an event at %d: %+v: it isn't seen from there", s, place, call)
			}
			if sees, _ := shadow.Seen(s, on(call.At), on(place)); !sees {
				c.hidden++
			}
		}
	}
}

func (c *tally) enough(t *testing.T) {
	t.Helper()
	if c.events < 1000 || c.calls < 1000 || c.moved < 1000 || c.left < 1000 || c.hidden < 1000 {
		t.Errorf("%+v: too few", *c)
	}
}

// TestAllSmall: all right stores of up to three nodes with all lists of up to two hearers, and those of up to two nodes with all of three.
func TestAllSmall(t *testing.T) {
	var c tally
	for nodes, most := range []int{0, 3, 3, 2} {
		rightStores(nodes, func(s api.Store) {
			for many := range most + 1 {
				allHearers(many, nodes, func(l []api.Hearer) { c.holdAll(t, s, l) })
			}
		})
	}
	c.enough(t)
}

// TestSomeGreater: all right stores of four nodes, each with some lists of up to as many hearers as may be.
func TestSomeGreater(t *testing.T) {
	var c tally
	turn := 0
	rightStores(4, func(s api.Store) {
		for many := range api.MaxHearers + 1 {
			turn++
			c.holdAll(t, s, someHearers(many, 4, turn))
		}
	})
	c.enough(t)
}

// TestAllWrong: of wrong stores (rings, hosts of two, those that name no place) it says what Check says.
func TestAllWrong(t *testing.T) {
	const places = 3
	wrong := 0
	allStores(places, places, func(s api.Store) {
		want := store.Check(s)
		if want == api.OK {
			return
		}
		wrong++
		for place := range places {
			wantWrong(t, "a wrong store", s, someHearers(5, places, wrong), on(place), want)
		}
		if t.Failed() {
			t.Fatalf("of %+v", s)
		}
	})
	if wrong < 1000 {
		t.Errorf("%d wrong stores: too few", wrong)
	}
}

// TestWild: no call panics, whatever it is given, and the same call answers the same.
func TestWild(t *testing.T) {
	wild := []int{math.MinInt, -2, -1, 0, 1, 2, math.MaxInt}
	for _, a := range wild {
		for _, b := range wild {
			for _, c := range wild {
				l := []api.Hearer{stops(down(a, b)), once(up(b, c)), up(c, a), down(0, 0)}
				n := api.Node{Used: true, Uses: a, Tag: b, Mark: c, Parent: b, Kids: []int{a, c, b, a}, Host: c, Closed: true}
				for _, s := range []api.Store{{}, {Nodes: []api.Node{n}}, {Nodes: []api.Node{n, alone(), n}}, of(alone(), root(0, true), child(1))} {
					holdTwice(t, s, l, api.Hand{Place: b, Use: a}, c)
					holdTwice(t, s, l, on(2), b)
					holdTwice(t, s, l[1:], on(0), a)
				}
			}
		}
	}
}

// holdTwice makes all calls twice, and holds the answers against each other.
func holdTwice(t *testing.T, s api.Store, l []api.Hearer, h api.Hand, places int) {
	t.Helper()
	answers := func() []any {
		calls, left, e := event.Dispatch(s, l, h)
		return []any{calls, left, e, event.Check(l, places)}
	}
	if first, second := answers(), answers(); !reflect.DeepEqual(first, second) {
		t.Fatalf("of %+v, %+v, %+v: %+v, then %+v", s, l, h, first, second)
	}
}

// TestGreat: of more nodes or hearers than may be, no call takes a long time.
func TestGreat(t *testing.T) {
	const places = 200000
	nodes := []api.Node{alone()}
	for k := range places - 1 {
		nodes = append(nodes, root(k, false))
	}
	s := api.Store{Nodes: nodes}
	for range 2 {
		wantWrong(t, "too many nodes", s, many(places), on(places-1), api.ErrMany)
		s.Nodes[0] = root(places-1, true)
	}
	wantWrong(t, "too many hearers", ship(), many(places), on(sea), api.ErrMany)
}
