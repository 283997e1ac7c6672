package shadow_test

import (
	"math"
	"reflect"
	"slices"
	"testing"

	"glasshouse/api"
	"glasshouse/shadow"
	"glasshouse/store"
)

// allStores calls visit with all stores of so many nodes, each of them alone, or a child, or an open or closed root of any place up to this one; wrong stores are among them.
func allStores(nodes, last int, visit func(s api.Store)) {
	kinds := []api.Node{alone()}
	for at := range last + 1 {
		kinds = append(kinds, child(at), root(at, false), root(at, true))
	}
	var add func(l []api.Node)
	add = func(l []api.Node) {
		if len(l) == nodes {
			visit(of(slices.Clone(l)...))
			return
		}
		for _, n := range kinds {
			add(append(l[:len(l):len(l)], n))
		}
	}
	add(nil)
}

// rightStores calls visit with those of four nodes that Check says nothing of.
func rightStores(visit func(s api.Store)) {
	allStores(4, 3, func(s api.Store) {
		if store.Check(s) == api.OK {
			visit(s)
		}
	})
}

// standsIn tells of all pairs of places whether the first is the second, or stands under it at any step: told by all steps between all pairs, not by a way up.
func standsIn(s api.Store) [][]bool {
	n := len(s.Nodes)
	in := make([][]bool, n)
	for k, node := range s.Nodes {
		in[k] = make([]bool, n)
		in[k][k] = true
		above := node.Parent
		if node.Host != -1 {
			above = node.Host
		}
		if above >= 0 && above < n {
			in[k][above] = true
		}
	}
	for via := range n {
		for a := range n {
			for b := range n {
				in[a][b] = in[a][b] || in[a][via] && in[via][b]
			}
		}
	}
	return in
}

// rootsOf are the roots in which what is at a place stands.
func rootsOf(s api.Store, in [][]bool, place int) []int {
	var roots []int
	for r, n := range s.Nodes {
		if n.Host != -1 && in[place][r] {
			roots = append(roots, r)
		}
	}
	return roots
}

// seen is what the chapter says of Seen.
func seen(s api.Store, in [][]bool, from, to int) bool {
	for _, r := range rootsOf(s, in, to) {
		if s.Nodes[r].Closed && !in[from][r] {
			return false
		}
	}
	return true
}

// target is what the chapter says of Target, of a right store, step by step.
func target(s api.Store, in [][]bool, k, told int) int {
	for {
		roots := rootsOf(s, in, k)
		if !slices.ContainsFunc(roots, func(r int) bool { return !in[told][r] }) {
			return k
		}
		innermost := roots[0]
		for _, r := range roots {
			if in[r][innermost] {
				innermost = r
			}
		}
		k = s.Nodes[innermost].Host
	}
}

// TestAllRightStores: Seen, Target and Path of all nodes are as the chapter says; and so what one is told of is seen from there, and what is in no root from everywhere.
func TestAllRightStores(t *testing.T) {
	stores, hidden, moved := 0, 0, 0
	rightStores(func(s api.Store) {
		stores++
		in := standsIn(s)
		for k := range s.Nodes {
			holdPath(t, s, in, k)
			for told := range s.Nodes {
				sees, e := shadow.Seen(s, on(told), on(k))
				if want := seen(s, in, told, k); e != api.OK || sees != want {
					t.Fatalf("of %+v, is %d seen from %d: %t, errno %d", s, k, told, sees, e)
				}
				at := shadow.Target(s, k, told)
				if want := target(s, in, k, told); at != want {
					t.Fatalf("of %+v, what happened at %d, told %d: %d, want %d", s, k, told, at, want)
				}
				if ok, e := shadow.Seen(s, on(told), on(at)); !ok || e != api.OK {
					t.Fatalf("of %+v, %d is told of %d, which isn't seen from there", s, told, at)
				}
				if len(rootsOf(s, in, k)) == 0 && (!sees || at != k) {
					t.Fatalf("of %+v, %d is in no root, and isn't seen from %d", s, k, told)
				}
				if !sees {
					hidden++
				}
				if at != k {
					moved++
				}
			}
		}
	})
	if stores < 1000 || hidden < 1000 || moved < 1000 {
		t.Errorf("%d stores, %d hidden, %d moved: too few", stores, hidden, moved)
	}
}

// holdPath: a right store's Path has all that the node stands in or under, each once, each of them under the next.
func holdPath(t *testing.T, s api.Store, in [][]bool, place int) {
	t.Helper()
	path, e := shadow.Path(s, on(place))
	if e != api.OK || path[0] != place {
		t.Fatalf("of %+v, path of %d: %v, errno %d", s, place, path, e)
	}
	for k, at := range path[1:] {
		below := s.Nodes[path[k]]
		if below.Host != at && below.Parent != at {
			t.Fatalf("of %+v, path of %d: %v", s, place, path)
		}
	}
	for at := range s.Nodes {
		if slices.Contains(path, at) != in[place][at] {
			t.Fatalf("of %+v, path of %d: %v: is %d on it?", s, place, path, at)
		}
	}
}

// TestAllAttaches: stores stay stores; and the root is seen from itself, from outside if it isn't closed, and what happens in it is told to its host as if it happened there.
func TestAllAttaches(t *testing.T) {
	attached := 0
	rightStores(func(s api.Store) {
		s.Nodes = append(s.Nodes, gone())
		for host := range 4 {
			for _, closed := range []bool{false, true} {
				got, h, e := shadow.Attach(s, on(host), closed)
				if slices.ContainsFunc(s.Nodes, func(n api.Node) bool { return n.Host == host }) {
					wantWrong(t, "a host already", e, api.ErrTree, got, h)
					continue
				}
				attached++
				want := api.Store{Nodes: append(slices.Clone(s.Nodes[:4]), api.Node{Used: true, Uses: 2, Parent: -1, Host: host, Closed: closed})}
				if e != api.OK || h != (api.Hand{Place: 4, Use: 2}) || !store.Same(got, want) || store.Check(got) != api.OK {
					t.Fatalf("of %+v, a root of %d: %+v, %+v, errno %d", s, host, got, h, e)
				}
				out, e1 := shadow.Seen(got, on(host), h)
				in, e2 := shadow.Seen(got, h, on(host))
				self, e3 := shadow.Seen(got, h, h)
				if out == closed || !in || !self || e1 != api.OK || e2 != api.OK || e3 != api.OK {
					t.Fatalf("of %+v, from host to root %t, back %t, to itself %t", got, out, in, self)
				}
				if shadow.Target(got, 4, host) != host || shadow.Target(got, 4, 4) != 4 {
					t.Fatalf("of %+v, what happened at the root isn't told as it ought to be", got)
				}
			}
		}
	})
	if attached < 1000 {
		t.Errorf("%d roots: too few", attached)
	}
}

// TestAllSmallStores: of wrong ones (rings, hosts of two, those that name no place) all calls say what Check says, and Target ends.
func TestAllSmallStores(t *testing.T) {
	const places = 3
	wrong := 0
	allStores(places, places, func(s api.Store) {
		want := store.Check(s)
		if want == api.OK {
			return
		}
		wrong++
		for from := range places {
			attached, h, e := shadow.Attach(s, on(from), false)
			wantWrong(t, "Attach", e, want, attached, h)
			path, e := shadow.Path(s, on(from))
			wantWrong(t, "Path", e, want, path)
			for to := range places {
				sees, e := shadow.Seen(s, on(from), on(to))
				wantWrong(t, "Seen", e, want, sees)
				shadow.Target(s, to, from)
			}
		}
		if t.Failed() {
			t.Fatalf("of %+v", s)
		}
	})
	if wrong < 1000 {
		t.Errorf("%d wrong stores: too few", wrong)
	}
}

// TestWild: no call panics, whatever it is given, and the same call answers the same.
func TestWild(t *testing.T) {
	wild := []int{math.MinInt, -2, -1, 0, 1, 2, math.MaxInt}
	for _, a := range wild {
		for _, b := range wild {
			for _, c := range wild {
				for _, used := range []bool{false, true} {
					n := api.Node{Used: used, Uses: a, Tag: b, Mark: c, Parent: b, Kids: []int{a, c, b, a}, Host: c, Closed: used}
					for _, s := range []api.Store{{}, {Nodes: []api.Node{n}}, {Nodes: []api.Node{n, alone(), n}}, {Nodes: []api.Node{root(1, true), n}}} {
						holdTwice(t, s, api.Hand{Place: b, Use: a}, on(1))
						holdTwice(t, s, on(0), api.Hand{Place: c, Use: b})
					}
				}
			}
		}
	}
}

// holdTwice makes all calls twice, and holds the answers against each other.
func holdTwice(t *testing.T, s api.Store, a, b api.Hand) {
	t.Helper()
	answers := func() []any {
		attached, h, e1 := shadow.Attach(s, a, true)
		ok, e2 := shadow.Seen(s, a, b)
		path, e3 := shadow.Path(s, a)
		return []any{attached, h, e1, ok, e2, path, e3, shadow.Target(s, a.Place, b.Place), shadow.Target(s, b.Use, a.Use)}
	}
	if first, second := answers(), answers(); !reflect.DeepEqual(first, second) {
		t.Fatalf("of %+v, %+v, %+v: %+v, then %+v", s, a, b, first, second)
	}
}

// rootsInRoots is a store of as many nodes as said, each the open root of the one ahead.
func rootsInRoots(places int) api.Store {
	nodes := []api.Node{alone()}
	for k := range places - 1 {
		nodes = append(nodes, root(k, false))
	}
	return api.Store{Nodes: nodes}
}

// TestFullStore: roots in roots, as many as may be.
func TestFullStore(t *testing.T) {
	s, last := rootsInRoots(api.MaxNodes), api.MaxNodes-1
	hold := func(what string, wantSeen bool) {
		t.Helper()
		path, e := shadow.Path(s, on(last))
		if e != api.OK || len(path) != api.MaxNodes || path[last] != 0 {
			t.Errorf("%s: path %v, errno %d", what, path, e)
		}
		got, e := shadow.Seen(s, on(0), on(last))
		if e != api.OK || got != wantSeen {
			t.Errorf("%s: %t, errno %d", what, got, e)
		}
		for told := range s.Nodes {
			if got := shadow.Target(s, last, told); got != told {
				t.Errorf("%s: told %d: %d", what, told, got)
			}
		}
	}
	hold("all open", true)
	s.Nodes[api.MaxNodes/2].Closed = true
	hold("one closed", false)
}

// TestGreatStores: of more nodes than may be, in long ways up and great rings, no call takes a long time.
func TestGreatStores(t *testing.T) {
	const places = 200000
	s, last := rootsInRoots(places), places-1
	for range 2 {
		attached, h, e := shadow.Attach(s, on(last), true)
		wantWrong(t, "Attach", e, api.ErrMany, attached, h)
		path, e := shadow.Path(s, on(last))
		wantWrong(t, "Path", e, api.ErrMany, path)
		sees, e := shadow.Seen(s, on(0), on(last))
		wantWrong(t, "Seen", e, api.ErrMany, sees)
		shadow.Target(s, last, 0)
		shadow.Target(s, last, last/2)
		s.Nodes[0] = root(last, true)
	}
}

// TestNothingIsSharedOrChanged: what was handed in stays as it was, and the spare room behind it, whatever is done to the answers.
func TestNothingIsSharedOrChanged(t *testing.T) {
	roomy := func() (api.Store, func() []any) {
		s := house()
		kids := append(slices.Clone(s.Nodes[lawn].Kids), 70, 71)
		s.Nodes[lawn].Kids = kids[:len(kids)-2]
		s.Nodes[away].Kids = kids[len(kids)-2 : len(kids)-2]
		nodes := append(slices.Clone(s.Nodes), api.Node{Uses: 80}, api.Node{Uses: 81})
		return api.Store{Nodes: nodes[:housePlaces]}, func() []any { return []any{kids, nodes} }
	}
	s, room := roomy()
	_, want := roomy()
	for range 2 {
		attached, _, e := shadow.Attach(s, on(away), true)
		if e != api.OK || attached.Nodes[ash].Host != away {
			t.Errorf("%+v, errno %d", attached, e)
		}
		for k, n := range attached.Nodes {
			for j := range n.Kids[:cap(n.Kids)] {
				n.Kids[:cap(n.Kids)][j] = -77 - k
			}
		}
		for k, n := range attached.Nodes {
			if slices.ContainsFunc(n.Kids, func(kid int) bool { return kid != -77-k }) {
				t.Errorf("the Kids of %d share memory with others: %v", k, n.Kids)
			}
		}
		clear(attached.Nodes[:cap(attached.Nodes)])
		path, e := shadow.Path(s, on(atom))
		if e != api.OK || !slices.Equal(path, []int{atom, core, coin, lid, chest, inner, wall, lawn}) {
			t.Errorf("%v, errno %d", path, e)
		}
		clear(path[:cap(path)])
		shadow.Seen(s, on(lawn), on(atom))
		shadow.Target(s, atom, lawn)
		shadow.Attach(s, on(wall), true)
	}
	if !reflect.DeepEqual(room(), want()) {
		t.Errorf("what was handed in is %+v, want %+v", room(), want())
	}
}
