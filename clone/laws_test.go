package clone_test

import (
	"math"
	"slices"
	"testing"

	"glasshouse/api"
	"glasshouse/clone"
)

// allLists answers all lists of up to so many of the kids from 0 to below cells.
func allLists(most, cells int) [][]int {
	lists := [][]int{nil}
	for from := 0; most > 0; most-- {
		to := len(lists)
		for _, l := range lists[from:to] {
			for kid := range cells {
				lists = append(lists, append(l[:len(l):len(l)], kid))
			}
		}
		from = to
	}
	return lists
}

// allGraphs answers all graphs of so many cells, each of a number from 0 to below numbers, and of up to so many Kids.
func allGraphs(cells, numbers, most int) []api.Graph {
	graphs := []api.Graph{{}}
	for range cells {
		var longer []api.Graph
		for _, g := range graphs {
			for n := range numbers {
				for _, l := range allLists(most, cells) {
					longer = append(longer, of(append(slices.Clone(g.Cells), cell(n, l...))...))
				}
			}
		}
		graphs = longer
	}
	return graphs
}

// someGraph is a graph of so many cells, another one at each turn.
func someGraph(cells, turn int) api.Graph {
	next := func(below int) int {
		turn = (turn*75 + 74) % 65537
		return turn % below
	}
	g := api.Graph{}
	for range cells {
		c := cell(next(3) - 1)
		for range next(4) {
			c.Kids = append(c.Kids, next(cells))
		}
		g.Cells = append(g.Cells, c)
	}
	return g
}

// distances tells of each cell how many steps there are from the first one to it; -1: nothing leads there.
func distances(g api.Graph) []int {
	far := slices.Repeat([]int{-1}, len(g.Cells))
	far[0] = 0
	for step := range g.Cells {
		for k, c := range g.Cells {
			if far[k] != step {
				continue
			}
			for _, kid := range c.Kids {
				if far[kid] == -1 {
					far[kid] = step + 1
				}
			}
		}
	}
	return far
}

// nearestWay is the first one, by its steps, of the shortest ways from the first cell to another one, told as which of the Kids each step takes.
func nearestWay(g api.Graph, far []int, to int) []int {
	if far[to] == 0 {
		return nil
	}
	var ways [][]int
	for k, c := range g.Cells {
		if j := slices.Index(c.Kids, to); j >= 0 && far[k] == far[to]-1 {
			ways = append(ways, append(slices.Clone(nearestWay(g, far, k)), j))
		}
	}
	return slices.MinFunc(ways, slices.Compare)
}

// copyOf is what the chapter says of a right graph: told by the ways that lead to the cells, not by a walk.
func copyOf(g api.Graph) api.Graph {
	if len(g.Cells) == 0 {
		return api.Graph{}
	}
	far := distances(g)
	ways := make([][]int, len(g.Cells))
	var order []int
	for k := range g.Cells {
		if far[k] >= 0 {
			order = append(order, k)
			ways[k] = nearestWay(g, far, k)
		}
	}
	slices.SortFunc(order, func(a, b int) int {
		if far[a] != far[b] {
			return far[a] - far[b]
		}
		return slices.Compare(ways[a], ways[b])
	})
	copied := api.Graph{}
	for _, k := range order {
		c := cell(g.Cells[k].N)
		for _, kid := range g.Cells[k].Kids {
			c.Kids = append(c.Kids, slices.Index(order, kid))
		}
		copied.Cells = append(copied.Cells, c)
	}
	return copied
}

// tally counts what was tried.
type tally struct{ graphs, moved, fewer, like, unlike int }

// holdCopy: a copy is as the chapter says; it is a right graph, like what it is of, the copy of itself, and has nothing that its first cell doesn't lead to.
func (c *tally) holdCopy(t *testing.T, g api.Graph) {
	t.Helper()
	copied, e := clone.Copy(g)
	if want := copyOf(g); e != api.OK || !clone.Same(copied, want) {
		t.Fatalf("of %+v: %+v, errno %d, want %+v", g, copied, e, want)
	}
	if e := clone.Check(copied); e != api.OK {
		t.Fatalf("of %+v: %+v, of which Check says %d", g, copied, e)
	}
	again, e := clone.Copy(copied)
	if e != api.OK || !clone.Same(again, copied) {
		t.Fatalf("of %+v: %+v, and of that: %+v, errno %d", g, copied, again, e)
	}
	if like, e := clone.Like(g, copied); !like || e != api.OK {
		t.Fatalf("of %+v: %+v isn't like it, errno %d", g, copied, e)
	}
	if len(copied.Cells) > 0 && slices.Contains(distances(copied), -1) {
		t.Fatalf("of %+v: %+v has what nothing leads to", g, copied)
	}
	c.graphs++
	if len(copied.Cells) < len(g.Cells) {
		c.fewer++
	} else if !clone.Same(copied, g) {
		c.moved++
	}
}

// moved is a graph whose cells are at other places: the one at place k at to[k].
func moved(g api.Graph, to []int) api.Graph {
	m := api.Graph{Cells: make([]api.Cell, len(g.Cells))}
	for k, c := range g.Cells {
		at := cell(c.N)
		for _, kid := range c.Kids {
			at.Kids = append(at.Kids, to[kid])
		}
		m.Cells[to[k]] = at
	}
	return m
}

// match tells whether the cells that the first ones of two graphs lead to can be held against each other, one to one: their numbers are alike, and their Kids are matched in order. It goes along with both graphs, and makes no copy.
func match(a, b api.Graph) bool {
	if len(a.Cells) == 0 || len(b.Cells) == 0 {
		return len(a.Cells) == len(b.Cells)
	}
	mateOfA, mateOfB := map[int]int{}, map[int]int{}
	var hold func(x, y int) bool
	hold = func(x, y int) bool {
		mateX, hasX := mateOfA[x]
		mateY, hasY := mateOfB[y]
		if hasX || hasY {
			return hasX && hasY && mateX == y && mateY == x
		}
		mateOfA[x], mateOfB[y] = y, x
		p, q := a.Cells[x], b.Cells[y]
		return p.N == q.N && slices.EqualFunc(p.Kids, q.Kids, hold)
	}
	return hold(0, 0)
}

// holdLike: two graphs are like each other, if and only if they match.
func (c *tally) holdLike(t *testing.T, a, b api.Graph) {
	t.Helper()
	want := match(a, b)
	if like, e := clone.Like(a, b); e != api.OK || like != want {
		t.Fatalf("%+v is like %+v: %v, errno %d, want %v", a, b, like, e, want)
	}
	if want {
		c.like++
	} else {
		c.unlike++
	}
}

func (c *tally) enough(t *testing.T) {
	t.Helper()
	if c.graphs < 1000 || c.moved < 100 || c.fewer < 100 || c.like < 1000 || c.unlike < 1000 {
		t.Errorf("%+v: too few", *c)
	}
}

// TestAllSmall: all graphs of up to three cells, of the numbers 0 and 1, and of up to two Kids each; and all pairs of those of up to two cells.
func TestAllSmall(t *testing.T) {
	var c tally
	few := slices.Concat(allGraphs(0, 1, 0), allGraphs(1, 2, 3), allGraphs(2, 2, 2))
	for _, a := range few {
		c.holdCopy(t, a)
		for _, b := range few {
			c.holdLike(t, a, b)
		}
	}
	more := allGraphs(3, 2, 2)
	for k, a := range more {
		c.holdCopy(t, a)
		c.holdLike(t, a, moved(a, []int{0, 2, 1}))
		c.holdLike(t, a, moved(a, []int{1, 2, 0}))
		c.holdLike(t, a, few[k%len(few)])
		c.holdLike(t, a, more[(k+1)%len(more)])
	}
	c.enough(t)
}

// TestSomeGreater: graphs of up to as many cells as may be.
func TestSomeGreater(t *testing.T) {
	var c tally
	for turn := range 5000 {
		g := someGraph(turn%api.MaxCells+1, turn)
		c.holdCopy(t, g)
		c.holdLike(t, g, someGraph(turn%api.MaxCells+1, turn+api.MaxCells))
		// Whoever moves all but the first cell has a graph that is like it.
		back := []int{0}
		for k := len(g.Cells) - 1; k > 0; k-- {
			back = append(back, k)
		}
		if like, e := clone.Like(g, moved(g, back)); !like || e != api.OK {
			t.Fatalf("%+v, its cells moved, isn't like it, errno %d", g, e)
		}
		c.like++
	}
	c.enough(t)
}

// TestWild: no call panics, whatever it is given; what Check says, Copy and Like say; and the same call answers the same.
func TestWild(t *testing.T) {
	wild := []int{math.MinInt, -api.MaxValue - 1, -2, -1, 0, 1, 2, api.MaxValue, math.MaxInt}
	right := 0
	for _, a := range wild {
		for _, b := range wild {
			for _, n := range wild {
				for _, g := range []api.Graph{of(cell(n, a, b)), of(cell(n, a), cell(a, b)), of(cell(0), cell(n, b, a), cell(b))} {
					holdWild(t, g)
					if clone.Check(g) == api.OK {
						right++
					}
				}
			}
		}
	}
	if right < 50 {
		t.Errorf("%d right ones: too few", right)
	}
}

func holdWild(t *testing.T, g api.Graph) {
	t.Helper()
	want := clone.Check(g)
	first, e := clone.Copy(g)
	second, _ := clone.Copy(g)
	if e != want || !clone.Same(first, second) || want != api.OK && first.Cells != nil {
		t.Fatalf("of %+v: %+v, then %+v, errno %d, want errno %d", g, first, second, e, want)
	}
	if like, e := clone.Like(g, g); e != want || like != (want == api.OK) {
		t.Fatalf("of %+v: like itself: %v, errno %d, want errno %d", g, like, e, want)
	}
	if !clone.Same(g, g) {
		t.Fatalf("%+v isn't the same as itself", g)
	}
}
