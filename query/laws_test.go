package query_test

import (
	"math/rand"
	"reflect"
	"slices"
	"testing"

	"glasshouse/api"
	"glasshouse/query"
	"glasshouse/store"
	"glasshouse/tree"
)

// standsUnder tells of all pairs of nodes whether the first stands under the second by Parents, in any number of steps.
func standsUnder(s api.Store) [][]bool {
	n := len(s.Nodes)
	under := make([][]bool, n)
	for k := range under {
		under[k] = make([]bool, n)
		if p := s.Nodes[k].Parent; p >= 0 && p < n {
			under[k][p] = true
		}
	}
	for via := range n {
		for a := range n {
			for b := range n {
				under[a][b] = under[a][b] || under[a][via] && under[via][b]
			}
		}
	}
	return under
}

// isSo is what the chapter says of a query and a node, word by word.
func isSo(s api.Store, under [][]bool, place int, q []api.Test) bool {
	last, others := q[len(q)-1], q[:len(q)-1]
	n := s.Nodes[place]
	if last.Tag != whatever && last.Tag != n.Tag || last.Mark != whatever && last.Mark != n.Mark {
		return false
	}
	if len(others) == 0 {
		return true
	}
	for at := range s.Nodes {
		if at == n.Parent && isSo(s, under, at, others) {
			return true
		}
		if !last.Near && under[place][at] && isSo(s, under, at, others) {
			return true
		}
	}
	return false
}

// holdAgainst holds Fits of all nodes that are in use, and Find of a right store, against the chapter's words.
func holdAgainst(t *testing.T, s api.Store, q []api.Test) {
	t.Helper()
	under := standsUnder(s)
	for place := range s.Nodes {
		want := isSo(s, under, place, q)
		if got, e := query.Fits(s, on(place), q); e != api.OK || got != want {
			t.Fatalf("of %+v, %d, %+v: Fits answers %t, errno %d, want %t", s, place, q, got, e, want)
		}
		order, wantE := tree.Order(s, on(place))
		var found []int
		for k, at := range order {
			if k > 0 && isSo(s, under, at, q) {
				found = append(found, at)
			}
		}
		if got, e := query.Find(s, on(place), q); e != wantE || !slices.Equal(got, found) {
			t.Fatalf("of %+v, %d, %+v: Find answers %v, errno %d, want %v, %d", s, place, q, got, e, found, wantE)
		}
	}
}

// smallQueries are all queries of up to three tests, of two tags and whatever.
func smallQueries() [][]api.Test {
	firsts := []api.Test{tag(0), tag(1), tag(whatever)}
	others := append([]api.Test{near(0), near(1), near(whatever)}, firsts...)
	var all [][]api.Test
	for _, a := range firsts {
		all = append(all, ask(a))
		for _, b := range others {
			all = append(all, ask(a, b))
			for _, c := range others {
				all = append(all, ask(a, b, c))
			}
		}
	}
	return all
}

// TestAllSmallStores: three nodes of two tags, each the child of any or of none: rings, and lists of Kids that don't fit, among them.
func TestAllSmallStores(t *testing.T) {
	const places = 3
	queries := smallQueries()
	right := 0
	for parents := range (places + 1) * (places + 1) * (places + 1) {
		for tags := range 1 << places {
			var spots []spot
			for k, p := 0, parents; k < places; k, p = k+1, p/(places+1) {
				spots = append(spots, spot{tag: tags >> k & 1, parent: p%(places+1) - 1})
			}
			s := planted(spots...)
			if store.Check(s) == api.OK {
				right++
			}
			for _, q := range queries {
				holdAgainst(t, s, q)
			}
		}
	}
	if right != 16*8 {
		t.Errorf("%d right stores, want %d", right, 16*8)
	}
}

// drawn is a query of so many tests, such that it is often so of some node.
func drawn(r *rand.Rand, tests int) []api.Test {
	var q []api.Test
	for k := range tests {
		test := api.Test{Tag: whatever, Mark: whatever, Near: k > 0 && r.Intn(2) == 0}
		if r.Intn(2) == 0 {
			test.Tag = r.Intn(2)
		}
		if r.Intn(3) == 0 {
			test.Mark = r.Intn(2)
		}
		q = append(q, test)
	}
	return q
}

// TestLongQueries: of nodes that stand deep, right stores and others.
func TestLongQueries(t *testing.T) {
	r := rand.New(rand.NewSource(3))
	so := 0
	for range 4000 {
		var spots []spot
		for k := range 9 {
			p := spot{r.Intn(2), r.Intn(2), k - 1 - r.Intn(2)}
			if p.parent < 0 {
				p.parent = -1
			}
			if r.Intn(20) == 0 {
				p.parent = r.Intn(14) - 3
			}
			spots = append(spots, p)
		}
		s, q := planted(spots...), drawn(r, 1+r.Intn(api.MaxTests))
		holdAgainst(t, s, q)
		if got, _ := query.Fits(s, on(8), q); got && len(q) > 2 {
			so++
		}
	}
	if so < 200 {
		t.Errorf("%d long queries were so: too few", so)
	}
}

// TestOneTestMore: what a query with one test more finds, that test finds alone; and if nothing else is said of it, it is under what the query was so of.
func TestOneTestMore(t *testing.T) {
	s := planted(spot{0, 0, -1}, spot{1, 1, 0}, spot{0, 1, 1}, spot{1, 0, 2}, spot{1, 1, 2}, spot{0, 0, 0}, spot{1, 0, 5})
	r := rand.New(rand.NewSource(4))
	found := 0
	for range 3000 {
		q := drawn(r, 1+r.Intn(api.MaxTests-1))
		more := drawn(r, 2)[1]
		longer, e := query.Find(s, on(0), append(slices.Clone(q), more))
		more.Near = false
		alone, e2 := query.Find(s, on(0), ask(more))
		if e != api.OK || e2 != api.OK {
			t.Fatalf("%+v and %+v: errnos %d, %d", q, more, e, e2)
		}
		found += len(longer)
		for _, place := range longer {
			if !slices.Contains(alone, place) {
				t.Fatalf("%+v and %+v: %d is found, and the test isn't so of it", q, more, place)
			}
		}
	}
	if found < 500 {
		t.Errorf("%d were found: too few", found)
	}
}

// TestFitsOfWildStores: Fits ends, whatever stands above a node, and goes by Parents alone.
func TestFitsOfWildStores(t *testing.T) {
	long := func(q ...api.Test) []api.Test {
		return append(slices.Repeat(ask(tag(whatever)), api.MaxTests-len(q)), q...)
	}
	ring := planted(spot{1, 0, 2}, spot{2, 0, 0}, spot{3, 0, 1}, spot{4, 0, 1})
	wantFits(t, "a ring", ring, on(0), long(tag(whatever)), true, api.OK)
	wantFits(t, "under itself, in a ring", ring, on(0), ask(tag(1), tag(1)), true, api.OK)
	wantFits(t, "round a ring and on", ring, on(0), ask(tag(3), near(1), near(2), near(3), near(1)), true, api.OK)
	wantFits(t, "round a ring the other way", ring, on(0), ask(tag(2), near(1)), false, api.OK)
	wantFits(t, "into a ring", ring, on(3), ask(tag(1), near(2), near(3), near(1), near(2), near(4)), true, api.OK)
	wantFits(t, "into a ring, and not under itself", ring, on(3), ask(tag(4), tag(4)), false, api.OK)
	meet := planted(spot{1, 0, 2}, spot{2, 0, 0}, spot{3, 0, 1}, spot{3, 0, 1}, spot{4, 0, 3})
	wantFits(t, "two of one parent", meet, on(4), ask(tag(2), near(3), tag(4)), true, api.OK)
	wantFits(t, "two of one parent, and not of its parent", meet, on(4), ask(tag(1), near(3), tag(4)), false, api.OK)
	wantFits(t, "its own parent", planted(spot{1, 0, 0}), on(0), long(near(whatever)), true, api.OK)
	wantFits(t, "its own parent, of another tag", planted(spot{1, 0, 0}), on(0), long(near(2)), false, api.OK)
	for _, far := range []int{-1 << 62, -2, 1, 2, 1 << 62} {
		wantFits(t, "a parent far away", planted(spot{1, 0, far}), on(0), ask(tag(1)), true, api.OK)
		wantFits(t, "under one far away", planted(spot{1, 0, far}), on(0), ask(tag(whatever), tag(1)), false, api.OK)
	}
	both := planted(spot{1, 0, -1}, spot{2, 0, -1}, spot{3, 0, 0})
	both.Nodes[2].Host = 1
	wantFits(t, "a parent and a host", both, on(2), ask(tag(1), near(3)), true, api.OK)
	wantFits(t, "a host and a parent", both, on(2), ask(tag(2), tag(3)), false, api.OK)
	odd := planted(spot{whatever, whatever, -1})
	wantFits(t, "a tag that no test may ask for", odd, on(0), ask(tag(whatever)), true, api.OK)
	wantFits(t, "a tag that isn't so", odd, on(0), ask(tag(0)), false, api.OK)
}

// TestFitsOfGreatStores: where many ways lead up, the tests don't go each of them.
func TestFitsOfGreatStores(t *testing.T) {
	const places = 20000
	spots := make([]spot, places)
	for k := range spots {
		spots[k] = spot{1, 0, k - 1}
	}
	q := append(ask(tag(2)), slices.Repeat(ask(tag(1)), api.MaxTests-1)...)
	wantFits(t, "a long line", planted(spots...), on(places-1), q, false, api.OK)
	spots[0].parent = places - 1
	wantFits(t, "a great ring", planted(spots...), on(places-1), q, false, api.OK)
	spots[places/2].tag = 2
	wantFits(t, "a great ring with one of the tag", planted(spots...), on(0), q, true, api.OK)
}

// TestNothingIsSharedOrChanged: what was handed in stays as it was, and the spare room behind it, whatever is done to the answer.
func TestNothingIsSharedOrChanged(t *testing.T) {
	roomy := func() (api.Store, []api.Test, func() []any) {
		s := garden()
		kids := []int{2, 4, 70, 71}
		s.Nodes[1].Kids = kids[:2]
		nodes := append(slices.Clone(s.Nodes), api.Node{Uses: 80})
		tests := ask(tag(1), tag(whatever), near(81))
		return api.Store{Nodes: nodes[:9]}, tests[:2], func() []any { return []any{kids, nodes, tests} }
	}
	s, q, room := roomy()
	_, _, want := roomy()
	query.Check(q)
	query.Fits(s, on(5), q)
	for range 2 {
		found, e := query.Find(s, on(0), q)
		if e != api.OK || !slices.Equal(found, []int{1, 2, 3, 4, 5}) {
			t.Errorf("%v, errno %d", found, e)
		}
		for k := range found[:cap(found)] {
			found[:cap(found)][k] = -77
		}
	}
	query.Find(s, on(0), q[:1])
	query.Find(s, on(8), q)
	query.Find(s, on(0), q[:0])
	if !reflect.DeepEqual(room(), want()) {
		t.Errorf("what was handed in is %+v, want %+v", room(), want())
	}
}
