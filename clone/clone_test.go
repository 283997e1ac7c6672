package clone_test

import (
	"math"
	"reflect"
	"slices"
	"testing"

	"glasshouse/api"
	"glasshouse/clone"
)

// cell is one of a number and Kids.
func cell(n int, kids ...int) api.Cell { return api.Cell{N: n, Kids: kids} }

// of is a graph of these cells.
func of(cells ...api.Cell) api.Graph { return api.Graph{Cells: cells} }

// many is a graph of so many cells, all alike.
func many(cells int, c api.Cell) api.Graph {
	return api.Graph{Cells: slices.Repeat([]api.Cell{c}, cells)}
}

// wantCopy: this copy, and nothing is wrong.
func wantCopy(t *testing.T, what string, g, want api.Graph) {
	t.Helper()
	got, e := clone.Copy(g)
	if e != api.OK || !clone.Same(got, want) {
		t.Errorf("%s: %+v, errno %d, want %+v", what, got, e, want)
	}
}

// wantLike: both ways round, and nothing is wrong.
func wantLike(t *testing.T, what string, a, b api.Graph, want bool) {
	t.Helper()
	for _, pair := range [][2]api.Graph{{a, b}, {b, a}} {
		if got, e := clone.Like(pair[0], pair[1]); e != api.OK || got != want {
			t.Errorf("%s: %+v is like %+v: %v, errno %d, want %v", what, pair[0], pair[1], got, e, want)
		}
	}
}

// wantWrong: Check, Copy and Like say that error, and nothing beside it.
func wantWrong(t *testing.T, what string, g api.Graph, want api.Errno) {
	t.Helper()
	if e := clone.Check(g); e != want {
		t.Errorf("%s: Check answers %d, want %d", what, e, want)
	}
	if copied, e := clone.Copy(g); e != want || copied.Cells != nil {
		t.Errorf("%s: Copy answers %+v, errno %d, want errno %d", what, copied, e, want)
	}
	for _, pair := range [][2]api.Graph{{g, of(cell(1))}, {of(cell(1)), g}, {g, g}} {
		if like, e := clone.Like(pair[0], pair[1]); e != want || like {
			t.Errorf("%s: Like answers %v, errno %d, want errno %d", what, like, e, want)
		}
	}
}

// kids is so many times the kid 0.
func kids(n int) []int { return make([]int, n) }

func TestCheckRight(t *testing.T) {
	for what, g := range map[string]api.Graph{
		"none":                     {},
		"none, of an empty list":   {Cells: []api.Cell{}},
		"one":                      of(cell(0)),
		"an empty list of kids":    of(api.Cell{Kids: []int{}}),
		"its own kid":              of(cell(1, 0)),
		"a kid twice":              of(cell(1, 1, 1), cell(2)),
		"a ring":                   of(cell(1, 1), cell(2, 0)),
		"what nothing leads to":    of(cell(1), cell(2, 0)),
		"the last cell is a kid":   of(cell(1, 2), cell(2), cell(3)),
		"the least and most":       of(cell(-api.MaxValue), cell(api.MaxValue)),
		"as many kids as may be":   of(cell(1, kids(api.MaxKids)...)),
		"as many cells as may be":  many(api.MaxCells, cell(1)),
		"as many of both":          many(api.MaxCells, cell(1, 0, 1, 2, 3, 4, 5, 6, api.MaxCells-1)),
		"kids all of another cell": of(cell(1), cell(2, kids(api.MaxKids)...)),
	} {
		if e := clone.Check(g); e != api.OK {
			t.Errorf("%s: errno %d", what, e)
		}
	}
}

// TestWrong: each error, and which of them is told first: cell by cell, and of each cell in the order N, how many Kids, which Kids. What nothing leads to is looked at, too.
func TestWrong(t *testing.T) {
	above, below := api.MaxValue+1, -api.MaxValue-1
	tooMany := kids(api.MaxKids + 1)
	tooManyOfNone := slices.Repeat([]int{-1}, api.MaxKids+1)
	for _, c := range []struct {
		what string
		g    api.Graph
		want api.Errno
	}{
		{"one cell too many", many(api.MaxCells+1, cell(1)), api.ErrMany},
		{"too many cells, of wrong numbers", many(api.MaxCells+1, cell(above)), api.ErrMany},
		{"too many cells, of no kids", many(api.MaxCells+1, cell(1, -1)), api.ErrMany},
		{"far too many cells", many(200000, cell(1, 5)), api.ErrMany},
		{"a number above all", of(cell(above)), api.ErrRange},
		{"a number below all", of(cell(below)), api.ErrRange},
		{"the greatest number", of(cell(math.MaxInt)), api.ErrRange},
		{"the least number", of(cell(math.MinInt)), api.ErrRange},
		{"the mark of any", of(cell(api.Whatever)), api.ErrRange},
		{"a number of the last cell", of(cell(1), cell(2), cell(above)), api.ErrRange},
		{"one kid too many", of(cell(1, tooMany...)), api.ErrMany},
		{"far too many kids", of(cell(1, kids(200000)...)), api.ErrMany},
		{"too many kids of the last cell", of(cell(1), cell(2, tooMany...)), api.ErrMany},
		{"a kid past the last cell", of(cell(1, 1)), api.ErrWho},
		{"a kid past the last cell of two", of(cell(1, 1), cell(1, 2)), api.ErrWho},
		{"a kid below all", of(cell(1, -1)), api.ErrWho},
		{"the least kid", of(cell(1, math.MinInt)), api.ErrWho},
		{"the greatest kid", of(cell(1, math.MaxInt)), api.ErrWho},
		{"the last of many kids", of(cell(1, 0, 0, 0, 0, 0, 0, 0, 1)), api.ErrWho},
		{"a number, then too many kids", of(cell(above, tooMany...)), api.ErrRange},
		{"a number, then a kid", of(cell(below, 7)), api.ErrRange},
		{"too many kids, none of them cells", of(cell(1, tooManyOfNone...)), api.ErrMany},
		{"a kid, then a number of the next cell", of(cell(1, -1), cell(above)), api.ErrWho},
		{"a kid, then too many of the next cell", of(cell(1, -1), cell(1, tooMany...)), api.ErrWho},
		{"too many kids, then a number of the next cell", of(cell(1, tooMany...), cell(above)), api.ErrMany},
		{"too many kids, then a kid of the next cell", of(cell(1, tooMany...), cell(1, -1)), api.ErrMany},
		{"a number, then a kid of the next cell", of(cell(above), cell(1, -1)), api.ErrRange},
	} {
		wantWrong(t, c.what, c.g, c.want)
	}
}

// TestLikeSaysTheFirstFirst: of two wrong graphs the error of the first.
func TestLikeSaysTheFirstFirst(t *testing.T) {
	wrong := map[api.Errno]api.Graph{
		api.ErrMany:  many(api.MaxCells+1, cell(1)),
		api.ErrRange: of(cell(api.MaxValue + 1)),
		api.ErrWho:   of(cell(1, 1)),
	}
	for want, a := range wrong {
		for _, b := range wrong {
			if like, e := clone.Like(a, b); e != want || like {
				t.Errorf("%+v, %+v: %v, errno %d, want errno %d", a, b, like, e, want)
			}
		}
		if like, e := clone.Like(api.Graph{}, a); e != want || like {
			t.Errorf("nothing, %+v: %v, errno %d, want errno %d", a, like, e, want)
		}
	}
}

func TestSame(t *testing.T) {
	full := of(cell(1, 1, 2, 2), cell(5), cell(3, 0))
	alike := of(cell(1, 1, 2, 2), api.Cell{N: 5, Kids: []int{}}, cell(3, 0))
	if !clone.Same(full, full) || !clone.Same(full, alike) || !clone.Same(alike, full) {
		t.Error("a graph isn't the same as its like")
	}
	if !clone.Same(api.Graph{}, api.Graph{Cells: []api.Cell{}}) {
		t.Error("nothing isn't the same as nothing")
	}
	for what, other := range map[string]api.Graph{
		"N":              of(cell(1, 1, 2, 2), cell(5), cell(4, 0)),
		"N of the first": of(cell(-1, 1, 2, 2), cell(5), cell(3, 0)),
		"a kid":          of(cell(1, 1, 2, 1), cell(5), cell(3, 0)),
		"kids' order":    of(cell(1, 2, 1, 2), cell(5), cell(3, 0)),
		"a kid fewer":    of(cell(1, 1, 2), cell(5), cell(3, 0)),
		"a kid more":     of(cell(1, 1, 2, 2), cell(5, 0), cell(3, 0)),
		"no kid":         of(cell(1), cell(5), cell(3, 0)),
		"a cell fewer":   of(cell(1, 1, 2, 2), cell(5)),
		"a cell more":    of(cell(1, 1, 2, 2), cell(5), cell(3, 0), cell(0)),
		"cells' order":   of(cell(1, 1, 2, 2), cell(3, 0), cell(5)),
		"like it, moved": of(cell(1, 2, 1, 1), cell(3, 0), cell(5)),
		"nothing":        {},
	} {
		if clone.Same(full, other) || clone.Same(other, full) {
			t.Errorf("the same, with another: %s", what)
		}
	}
}

// TestSameTakesAny: wrong graphs, too.
func TestSameTakesAny(t *testing.T) {
	wild := func() api.Graph {
		return of(cell(math.MinInt, -1, math.MaxInt), cell(api.MaxValue+1, kids(200000)...), cell(0, 99))
	}
	if !clone.Same(wild(), wild()) {
		t.Error("a wrong graph isn't the same as its like")
	}
	other := wild()
	other.Cells[1].Kids[199999] = 1
	if clone.Same(wild(), other) || clone.Same(many(200000, cell(1)), many(200001, cell(1))) {
		t.Error("wrong graphs that differ are the same")
	}
}

func TestCopy(t *testing.T) {
	wantCopy(t, "none", api.Graph{}, api.Graph{})
	wantCopy(t, "none, of an empty list", api.Graph{Cells: []api.Cell{}}, api.Graph{})
	wantCopy(t, "one", of(cell(7)), of(cell(7)))
	wantCopy(t, "its own kid", of(cell(7, 0, 0)), of(cell(7, 0, 0)))
	wantCopy(t, "a ring", of(cell(1, 1), cell(2, 2), cell(3, 0)), of(cell(1, 1), cell(2, 2), cell(3, 0)))
	wantCopy(t, "what nothing leads to", of(cell(1), cell(2, 0), cell(3, 1)), of(cell(1)))
	wantCopy(t, "a ring that nothing leads to", of(cell(1, 3), cell(2, 2), cell(3, 1), cell(4)), of(cell(1, 1), cell(4)))
	wantCopy(t, "a kid twice", of(cell(1, 2, 2), cell(5), cell(3, 0)), of(cell(1, 1, 1), cell(3, 0)))
	wantCopy(t, "two alike stay two", of(cell(1, 2, 1), cell(5), cell(5)), of(cell(1, 1, 2), cell(5), cell(5)))
	wantCopy(t, "the least and most", of(cell(api.MaxValue, 1), cell(-api.MaxValue)), of(cell(api.MaxValue, 1), cell(-api.MaxValue)))
}

// TestCopyIsByCells: all Kids of a cell come ahead of the Kids of these; a walk to the depths would have 1, 3, 4, 2.
func TestCopyIsByCells(t *testing.T) {
	wantCopy(t, "two steps", of(cell(1, 3, 1), cell(2), cell(4), cell(3, 2)), of(cell(1, 1, 2), cell(3, 3), cell(2), cell(4)))
	wantCopy(t, "a kid of both, by the nearest way",
		of(cell(0, 5, 4), cell(10), cell(20, 1), cell(30, 2, 4), cell(40, 1, 0), cell(50, 3, 4, 2)),
		of(cell(0, 1, 2), cell(50, 3, 2, 4), cell(40, 5, 0), cell(30, 4, 2), cell(20, 5), cell(10)))
}

// TestCopyFull: as many cells and Kids as may be; a chain, laid from the last to the first.
func TestCopyFull(t *testing.T) {
	last := api.MaxCells - 1
	chain, straight := of(cell(0, last)), of(cell(0, 1))
	for k := 1; k <= last; k++ {
		chain.Cells = append(chain.Cells, cell(api.MaxCells-k, max(k-1, 0)))
		straight.Cells = append(straight.Cells, cell(k, (k+1)%api.MaxCells))
	}
	wantCopy(t, "a chain", chain, straight)
	full := many(api.MaxCells, cell(0))
	for k := range full.Cells {
		for j := range api.MaxKids {
			full.Cells[k].Kids = append(full.Cells[k].Kids, min(k*api.MaxKids+j+1, last))
		}
	}
	wantCopy(t, "full", full, full)
}

func TestLike(t *testing.T) {
	g := of(cell(1, 2, 2), cell(5), cell(3, 0))
	wantLike(t, "itself", g, g, true)
	wantLike(t, "nothing", api.Graph{}, api.Graph{Cells: []api.Cell{}}, true)
	wantLike(t, "nothing and something", api.Graph{}, of(cell(0)), false)
	wantLike(t, "moved", of(cell(1, 1, 2), cell(2), cell(3)), of(cell(1, 2, 1), cell(3), cell(2)), true)
	wantLike(t, "what nothing leads to", g, of(cell(1, 3, 3), cell(9, 1), cell(8, 3, 0), cell(3, 0)), true)
	wantLike(t, "another first cell", of(cell(1, 1), cell(2, 0)), of(cell(2, 1), cell(1, 0)), false)
	wantLike(t, "another number", of(cell(1, 1), cell(2)), of(cell(1, 1), cell(3)), false)
	wantLike(t, "another order", of(cell(1, 1, 2), cell(2), cell(3)), of(cell(1, 2, 1), cell(2), cell(3)), false)
	wantLike(t, "a kid more", of(cell(1, 1), cell(2)), of(cell(1, 1, 1), cell(2)), false)
	wantLike(t, "two cells aren't one", of(cell(0, 1, 2), cell(0), cell(0)), of(cell(0, 1, 1), cell(0)), false)
	wantLike(t, "a ring of two isn't one of one", of(cell(0, 1), cell(0, 0)), of(cell(0, 0)), false)
	wantLike(t, "no first cell is left out", of(cell(0), cell(1)), of(cell(1), cell(0)), false)
}

// TestNothingIsSharedOrChanged: what was handed in stays as it was, and the spare room behind it, whatever is done to the answers; and so does each list of an answer, whatever is done to the others.
func TestNothingIsSharedOrChanged(t *testing.T) {
	roomy := func() (api.Graph, func() []any) {
		g := of(cell(1, 3, 0, 3), cell(9, 2), cell(2), cell(4, 2, 2))
		var lists [][]int
		for k, c := range g.Cells {
			lists = append(lists, append(slices.Clone(c.Kids), 70, 71))
			g.Cells[k].Kids = lists[k][:len(c.Kids)]
		}
		cells := append(slices.Clone(g.Cells), cell(80, 81), cell(82, 83))
		return api.Graph{Cells: cells[:len(g.Cells)]}, func() []any { return []any{lists, cells} }
	}
	g, room := roomy()
	_, want := roomy()
	for range 2 {
		copied, e := clone.Copy(g)
		if e != api.OK || !clone.Same(copied, of(cell(1, 1, 0, 1), cell(4, 2, 2), cell(2))) {
			t.Fatalf("%+v, errno %d", copied, e)
		}
		for k, c := range copied.Cells {
			for j := range c.Kids[:cap(c.Kids)] {
				c.Kids[:cap(c.Kids)][j] = 100 + k
			}
		}
		for k, c := range copied.Cells {
			if slices.ContainsFunc(c.Kids, func(kid int) bool { return kid != 100+k }) {
				t.Errorf("cell %d shares its Kids: %v", k, c.Kids)
			}
		}
		clear(copied.Cells[:cap(copied.Cells)])
		clone.Check(g)
		clone.Same(g, copied)
		clone.Like(g, g)
		clone.Copy(of(g.Cells[1], cell(api.MaxValue+1)))
	}
	if !reflect.DeepEqual(room(), want()) {
		t.Errorf("what was handed in is %+v, want %+v", room(), want())
	}
}

// TestSharedLists: cells that were handed in with one list of Kids get one each.
func TestSharedLists(t *testing.T) {
	one := []int{1, 2, 0}
	copied, e := clone.Copy(of(api.Cell{N: 1, Kids: one}, api.Cell{N: 2, Kids: one[:2]}, api.Cell{N: 3, Kids: one}))
	if want := of(cell(1, 1, 2, 0), cell(2, 1, 2), cell(3, 1, 2, 0)); e != api.OK || !clone.Same(copied, want) {
		t.Fatalf("%+v, errno %d", copied, e)
	}
	copied.Cells[0].Kids[0] = 50
	copied.Cells[1].Kids = append(copied.Cells[1].Kids, 60)
	if want := of(cell(1, 50, 2, 0), cell(2, 1, 2, 60), cell(3, 1, 2, 0)); !clone.Same(copied, want) || one[0] != 1 {
		t.Errorf("%+v of %v, want %+v", copied, one, want)
	}
}
