package query_test

import (
	"math/rand"
	"reflect"
	"slices"
	"testing"

	"glasshouse/api"
	"glasshouse/query"
	"glasshouse/store"
	"glasshouse/tree"
)

// standsUnder tells of all pairs of nodes whether the first stands under the second by Parents, in any number of steps.
func standsUnder(s api.Store) [][]bool {
	n := len(s.Nodes)
	under := make([][]bool, n)
	for k := range under {
		under[k] = make([]bool, n)
		if p := s.Nodes[k].Parent; p >= 0 && p < n {
			under[k][p] = true
		}
	}
	for via := range n {
		for a := range n {
			for b := range n {
				under[a][b] = under[a][b] || under[a][via] && under[via][b]
			}
		}
	}
	return under
}

// isSo is what the chapter says of a query and a node, word by word.
func isSo(s api.Store, under [][]bool, place int, q []api.Test) bool {
	last, others := q[len(q)-1], q[:len(q)-1]
	n := s.Nodes[place]
	if last.Tag != whatever && last.Tag != n.Tag || last.Mark != whatever && last.Mark != n.Mark {
		return false
	}
	if len(others) == 0 {
		return true
	}
	for at := range s.Nodes {
		if at == n.Parent && isSo(s, under, at, others) {
			return true
		}
		if !last.Near && under[place][at] && isSo(s, under, at, others) {
			return true
		}
	}
	return false
}

// holdAgainst holds Fits and Find of all nodes, which are in use, against the chapter's words; of a wrong store, against Check's.
func holdAgainst(t *testing.T, s api.Store, q []api.Test) {
	t.Helper()
	wantE := store.Check(s)
	under := standsUnder(s)
	for place := range s.Nodes {
		want := wantE == api.OK && isSo(s, under, place, q)
		if got, e := query.Fits(s, on(place), q); e != wantE || got != want {
			t.Fatalf("of %+v, %d, %+v: Fits answers %t, errno %d, want %t, %d", s, place, q, got, e, want, wantE)
		}
		order, _ := tree.Order(s, on(place))
		var found []int
		for k, at := range order {
			if k > 0 && isSo(s, under, at, q) {
				found = append(found, at)
			}
		}
		if got, e := query.Find(s, on(place), q); e != wantE || !slices.Equal(got, found) {
			t.Fatalf("of %+v, %d, %+v: Find answers %v, errno %d, want %v, %d", s, place, q, got, e, found, wantE)
		}
	}
}

// smallQueries are all queries of up to three tests, of two tags and whatever.
func smallQueries() [][]api.Test {
	firsts := []api.Test{tag(0), tag(1), tag(whatever)}
	others := append([]api.Test{near(0), near(1), near(whatever)}, firsts...)
	var all [][]api.Test
	for _, a := range firsts {
		all = append(all, ask(a))
		for _, b := range others {
			all = append(all, ask(a, b))
			for _, c := range others {
				all = append(all, ask(a, b, c))
			}
		}
	}
	return all
}

// TestAllSmallStores: three nodes of two tags, each the child of any or of none: rings, and lists of Kids that don't fit, among them.
func TestAllSmallStores(t *testing.T) {
	const places = 3
	queries := smallQueries()
	right := 0
	for parents := range (places + 1) * (places + 1) * (places + 1) {
		for tags := range 1 << places {
			var spots []spot
			for k, p := 0, parents; k < places; k, p = k+1, p/(places+1) {
				spots = append(spots, spot{tag: tags >> k & 1, parent: p%(places+1) - 1})
			}
			s := planted(spots...)
			if store.Check(s) == api.OK {
				right++
			}
			for _, q := range queries {
				holdAgainst(t, s, q)
			}
		}
	}
	if right != 16*8 {
		t.Errorf("%d right stores, want %d", right, 16*8)
	}
}

// drawn is a query of so many tests, such that it is often so of some node.
func drawn(r *rand.Rand, tests int) []api.Test {
	var q []api.Test
	for k := range tests {
		test := api.Test{Tag: whatever, Mark: whatever, Near: k > 0 && r.Intn(2) == 0}
		if r.Intn(2) == 0 {
			test.Tag = r.Intn(2)
		}
		if r.Intn(3) == 0 {
			test.Mark = r.Intn(2)
		}
		q = append(q, test)
	}
	return q
}

// TestLongQueries: of nodes that stand deep, right stores and others.
func TestLongQueries(t *testing.T) {
	r := rand.New(rand.NewSource(3))
	so := 0
	for range 4000 {
		var spots []spot
		for k := range 9 {
			p := spot{r.Intn(2), r.Intn(2), k - 1 - r.Intn(2)}
			if p.parent < 0 {
				p.parent = -1
			}
			if r.Intn(20) == 0 {
				p.parent = r.Intn(14) - 3
			}
			spots = append(spots, p)
		}
		s, q := planted(spots...), drawn(r, 1+r.Intn(api.MaxTests))
		holdAgainst(t, s, q)
		if got, _ := query.Fits(s, on(8), q); got && len(q) > 2 {
			so++
		}
	}
	if so < 200 {
		t.Errorf("%d long queries were so: too few", so)
	}
}

// TestOneTestMore: what a query with one test more finds, that test finds alone; and if nothing else is said of it, it is under what the query was so of.
func TestOneTestMore(t *testing.T) {
	s := planted(spot{0, 0, -1}, spot{1, 1, 0}, spot{0, 1, 1}, spot{1, 0, 2}, spot{1, 1, 2}, spot{0, 0, 0}, spot{1, 0, 5})
	r := rand.New(rand.NewSource(4))
	found := 0
	for range 3000 {
		q := drawn(r, 1+r.Intn(api.MaxTests-1))
		more := drawn(r, 2)[1]
		longer, e := query.Find(s, on(0), append(slices.Clone(q), more))
		more.Near = false
		alone, e2 := query.Find(s, on(0), ask(more))
		if e != api.OK || e2 != api.OK {
			t.Fatalf("%+v and %+v: errnos %d, %d", q, more, e, e2)
		}
		found += len(longer)
		for _, place := range longer {
			if !slices.Contains(alone, place) {
				t.Fatalf("%+v and %+v: %d is found, and the test isn't so of it", q, more, place)
			}
		}
	}
	if found < 500 {
		t.Errorf("%d were found: too few", found)
	}
}

// TestRings: where there is no last one above, every call ends, and says what Check says.
func TestRings(t *testing.T) {
	const places = 20000
	spots := make([]spot, places)
	for k := range spots {
		spots[k] = spot{1, 0, (k + places - 1) % places}
	}
	q := slices.Repeat(ask(tag(1)), api.MaxTests)
	wantFits(t, "a great ring", planted(spots...), on(0), q, false, api.ErrMany)
	wantFound(t, "a great ring", planted(spots...), on(0), q, nil, api.ErrMany)
	for _, ring := range []api.Store{
		planted(spot{1, 0, 0}),
		planted(spot{1, 0, 1}, spot{1, 0, 0}),
		planted(spot{1, 0, 2}, spot{1, 0, 0}, spot{1, 0, 1}, spot{1, 0, 1}),
	} {
		for place := range ring.Nodes {
			wantFits(t, "a ring", ring, on(place), q, false, api.ErrTree)
			wantFound(t, "a ring", ring, on(place), q, nil, api.ErrTree)
		}
	}
}

// TestNothingIsSharedOrChanged: what was handed in stays as it was, and the spare room behind it, whatever is done to the answer.
func TestNothingIsSharedOrChanged(t *testing.T) {
	roomy := func() (api.Store, []api.Test, func() []any) {
		s := garden()
		kids := []int{2, 4, 70, 71}
		s.Nodes[1].Kids = kids[:2]
		nodes := append(slices.Clone(s.Nodes), api.Node{Uses: 80})
		tests := ask(tag(1), tag(whatever), near(81))
		return api.Store{Nodes: nodes[:9]}, tests[:2], func() []any { return []any{kids, nodes, tests} }
	}
	s, q, room := roomy()
	_, _, want := roomy()
	query.Check(q)
	query.Fits(s, on(5), q)
	for range 2 {
		found, e := query.Find(s, on(0), q)
		if e != api.OK || !slices.Equal(found, []int{1, 2, 3, 4, 5}) {
			t.Errorf("%v, errno %d", found, e)
		}
		for k := range found[:cap(found)] {
			found[:cap(found)][k] = -77
		}
	}
	query.Find(s, on(0), q[:1])
	query.Find(s, on(8), q)
	query.Find(s, on(0), q[:0])
	if !reflect.DeepEqual(room(), want()) {
		t.Errorf("what was handed in is %+v, want %+v", room(), want())
	}
}
