package ground_test

import (
	"reflect"
	"testing"

	"glasshouse/api"
	"glasshouse/ground"
)

// line is a store in which 0 is the Parent of 1, 1 the Host of 2, and 2 the Parent of 3; 4 stands nowhere.
func line() api.Store {
	return api.Store{Nodes: []api.Node{
		{Parent: -1, Host: -1, Kids: []int{1}},
		{Parent: 0, Host: -1},
		{Parent: -1, Host: 1, Kids: []int{3}},
		{Parent: 2, Host: -1},
		{Parent: -1, Host: -1},
	}}
}

// ring is a store in which two nodes stand right under each other, and a third one under both.
func ring() api.Store {
	return api.Store{Nodes: []api.Node{{Parent: 1, Host: -1}, {Parent: -1, Host: 0}, {Parent: 1, Host: -1}}}
}

// climbed is what Climb visits, at most so much of it.
func climbed(s api.Store, place, most int, up func(n api.Node) int) []int {
	at := []int{}
	ground.Climb(s, place, up, func(k int) bool {
		at = append(at, k)
		return len(at) < most
	})
	return at
}

func TestClimb(t *testing.T) {
	cut := api.Store{Nodes: []api.Node{{Parent: 1, Host: -1}, {Parent: -5, Host: 2}}}
	loop := api.Store{Nodes: []api.Node{{Parent: 0, Host: -1}, {Parent: 0, Host: -1}}}
	for _, c := range []struct {
		what              string
		s                 api.Store
		place, most       int
		want, wantParents []int
	}{
		{"all the way", line(), 3, 9, []int{2, 1, 0}, []int{2}},
		{"as long as visit says so", line(), 3, 2, []int{2, 1}, []int{2}},
		{"no more than one", line(), 3, 1, []int{2}, []int{2}},
		{"from a root", line(), 2, 9, []int{1, 0}, []int{}},
		{"from the top", line(), 0, 9, []int{}, []int{}},
		{"from a node that stands nowhere", line(), 4, 9, []int{}, []int{}},
		{"from no place", line(), 5, 9, []int{}, []int{}},
		{"from below all places", line(), -1, 9, []int{}, []int{}},
		{"a ring", ring(), 0, 9, []int{1, 0, 1}, []int{1}},
		{"into a ring", ring(), 2, 9, []int{1, 0, 1}, []int{1}},
		{"a ring of one", loop, 1, 9, []int{0, 0}, []int{0, 0}},
		{"up to what is no place", cut, 0, 9, []int{1}, []int{1}},
		{"no places", api.Store{}, 0, 9, []int{}, []int{}},
	} {
		if got := climbed(c.s, c.place, c.most, ground.RightUnder); !reflect.DeepEqual(got, c.want) {
			t.Errorf("%s: %v, want %v", c.what, got, c.want)
		}
		if got := climbed(c.s, c.place, c.most, ground.Parent); !reflect.DeepEqual(got, c.wantParents) {
			t.Errorf("%s, by Parents: %v, want %v", c.what, got, c.wantParents)
		}
	}
}

func TestUnder(t *testing.T) {
	for place := range 5 {
		for above := range 5 {
			want := above < place && place < 4
			if got := ground.Under(line(), place, above); got != want {
				t.Errorf("%d under %d: %t", place, above, got)
			}
		}
	}
	if !ground.Under(ring(), 0, 0) || ground.Under(ring(), 2, 2) {
		t.Error("who is in a ring stands under itself, and nobody else")
	}
}

func TestIsPlace(t *testing.T) {
	for place, want := range map[int]bool{-1: false, 0: true, 4: true, 5: false} {
		if got := ground.IsPlace(line(), place); got != want {
			t.Errorf("%d: %t", place, got)
		}
	}
	if ground.IsPlace(api.Store{}, 0) {
		t.Error("a store of nothing has a place")
	}
}

func TestIsHost(t *testing.T) {
	for place := -1; place < 6; place++ {
		if got := ground.IsHost(line(), place); got != (place == 1) {
			t.Errorf("%d: %t", place, got)
		}
	}
}

func TestRootOf(t *testing.T) {
	for place, want := range map[int]int{-2: -1, -1: -1, 0: -1, 1: 2, 2: -1, 3: -1, 4: -1, 5: -1} {
		if got := ground.RootOf(line(), place); got != want {
			t.Errorf("%d: %d, want %d", place, got, want)
		}
	}
	if got := ground.RootOf(api.Store{}, 0); got != -1 {
		t.Errorf("of no places: %d", got)
	}
}

func TestWalk(t *testing.T) {
	below := map[int][]int{3: {5, 4}, 5: {0}, 4: {2, 1, 7}, 1: {6}}
	for place, want := range map[int][]int{3: {3, 5, 0, 4, 2, 1, 6, 7}, 4: {4, 2, 1, 6, 7}, 7: {7}, -1: {-1}} {
		if got := ground.Walk(place, func(at int) []int { return below[at] }); !reflect.DeepEqual(got, want) {
			t.Errorf("%d: %v, want %v", place, got, want)
		}
	}
}

func TestRightUnder(t *testing.T) {
	for _, c := range []struct{ parent, host, want int }{{-1, -1, -1}, {4, -1, 4}, {-1, 3, 3}, {4, 3, 3}, {0, 0, 0}} {
		if got := ground.RightUnder(api.Node{Parent: c.parent, Host: c.host}); got != c.want {
			t.Errorf("Parent %d, Host %d: %d, want %d", c.parent, c.host, got, c.want)
		}
	}
}

func TestWithin(t *testing.T) {
	for _, c := range []struct {
		x, low, high int
		want         bool
	}{{1, 1, 3, true}, {3, 1, 3, true}, {0, 1, 3, false}, {4, 1, 3, false}, {2, 3, 1, false}} {
		if got := ground.Within(c.x, c.low, c.high); got != c.want {
			t.Errorf("%d from %d to %d: %t", c.x, c.low, c.high, got)
		}
	}
}

// TestCopy: a copy is like what it was made of, and shares nothing with it, nor within itself.
func TestCopy(t *testing.T) {
	kids := []int{7, 8, 9}
	n := api.Node{Used: true, Uses: 2, Tag: 3, Mark: 4, Parent: 5, Kids: kids[:2], Host: 6, Closed: true}
	s := api.Store{Nodes: []api.Node{n, n, n}[:2]}
	c := ground.Copy(s)
	if !reflect.DeepEqual(c, s) {
		t.Errorf("a copy: %+v, want %+v", c, s)
	}
	c.Nodes[0].Kids[0] = 50
	_ = append(c.Nodes[0].Kids, 51)
	_ = append(c.Nodes, api.Node{})
	if c.Nodes[1].Kids[0] != 7 || !reflect.DeepEqual(kids, []int{7, 8, 9}) || s.Nodes[:3][2].Uses != 2 {
		t.Error("a copy shares memory")
	}
}

// TestCopyGraph: a copy is like what it was made of, place by place, whatever that is, and shares nothing with it, nor within itself.
func TestCopyGraph(t *testing.T) {
	kids := []int{7, -8, 9}
	c := api.Cell{N: 5, Kids: kids[:2]}
	g := api.Graph{Cells: []api.Cell{c, c, {N: 6}}[:2]}
	copied := ground.CopyGraph(g)
	if !reflect.DeepEqual(copied, g) {
		t.Errorf("a copy: %+v, want %+v", copied, g)
	}
	copied.Cells[0].Kids[0] = 50
	_ = append(copied.Cells[0].Kids, 51)
	_ = append(copied.Cells, api.Cell{})
	if copied.Cells[1].Kids[0] != 7 || !reflect.DeepEqual(kids, []int{7, -8, 9}) || g.Cells[:3][2].N != 6 {
		t.Error("a copy shares memory")
	}
	if none := ground.CopyGraph(api.Graph{}); len(none.Cells) != 0 {
		t.Errorf("a copy of nothing: %+v", none)
	}
}

// TestCopyPorts: copies are like what they were made of, whatever that is, and share nothing with it, nor within themselves.
func TestCopyPorts(t *testing.T) {
	came := []api.Graph{{Cells: []api.Cell{{N: 5, Kids: []int{7, -8}}}}, {}, {Cells: []api.Cell{{N: 6, Kids: []int{}}}}}
	p := api.Port{Owner: 3, Turn: -4, Mate: 9, Came: came[:1], Shut: true}
	l := []api.Port{p, p, {Owner: 8}}[:2]
	copied := ground.CopyPorts(l)
	if !reflect.DeepEqual(copied, l) {
		t.Errorf("copies: %+v, want %+v", copied, l)
	}
	copied[0].Came[0].Cells[0].Kids[0] = 50
	copied[0].Came[0] = api.Graph{}
	_ = append(copied[0].Came, api.Graph{})
	_ = append(copied, api.Port{})
	if !reflect.DeepEqual(copied[1], l[1]) || came[0].Cells[0].Kids[0] != 7 || came[2].Cells[0].N != 6 || l[:3][2].Owner != 8 {
		t.Error("copies share memory")
	}
	if none := ground.CopyPorts(nil); len(none) != 0 {
		t.Errorf("copies of nothing: %+v", none)
	}
}

// TestCopyRealm: a copy is like what it was made of, whatever that is, and shares nothing with it.
func TestCopyRealm(t *testing.T) {
	hands, told := []api.Hand{{Place: 1, Use: 2}, {Place: 3, Use: 4}}, []int{5, 6}
	r := api.Realm{S: line(), Hands: hands[:1], In: api.Graph{Cells: []api.Cell{{N: 5, Kids: []int{7}}}}, Told: told[:1]}
	for k := range r.S.Nodes {
		r.S.Nodes[k].Kids = append([]int{}, r.S.Nodes[k].Kids...)
	}
	copied := ground.CopyRealm(r)
	if !reflect.DeepEqual(copied, r) {
		t.Errorf("a copy: %+v, want %+v", copied, r)
	}
	copied.S.Nodes[0].Kids[0] = 50
	copied.S.Nodes[1].Mark = 51
	copied.In.Cells[0].Kids[0] = 52
	copied.In.Cells[0].N = 53
	copied.Hands[0].Use, copied.Told[0] = 54, 55
	_, _ = append(copied.Hands, api.Hand{}), append(copied.Told, 56)
	if r.S.Nodes[0].Kids[0] != 1 || r.S.Nodes[1].Mark != 0 || r.In.Cells[0].Kids[0] != 7 || r.In.Cells[0].N != 5 || hands[0].Use != 2 || hands[1].Use != 4 || told[0] != 5 || told[1] != 6 {
		t.Error("a copy shares memory")
	}
}

// TestCopyEach: a list of new memory, in order, of what is said of each; of nothing, nothing.
func TestCopyEach(t *testing.T) {
	list := []int{1, 2, 3}
	doubled := ground.CopyEach(list[:2], func(n int) int { return 2 * n })
	if !reflect.DeepEqual(doubled, []int{2, 4}) {
		t.Errorf("each: %v", doubled)
	}
	copied := ground.CopyList(list[:2])
	if !reflect.DeepEqual(copied, []int{1, 2}) {
		t.Errorf("a list: %v", copied)
	}
	copied[0], doubled[0] = 9, 9
	_, _ = append(copied, 9), append(doubled, 9)
	if !reflect.DeepEqual(list, []int{1, 2, 3}) || len(ground.CopyList[int](nil)) != 0 {
		t.Errorf("shared memory: %v", list)
	}
}
