package port_test

import (
	"math"
	"slices"
	"testing"

	"glasshouse/api"
	"glasshouse/clone"
	"glasshouse/port"
)

// cell is one of a number and Kids.
func cell(n int, kids ...int) api.Cell { return api.Cell{N: n, Kids: kids} }

// of is a graph of these cells.
func of(cells ...api.Cell) api.Graph { return api.Graph{Cells: cells} }

// numbers are graphs of one cell each, of these numbers.
func numbers(list ...int) []api.Graph {
	var graphs []api.Graph
	for _, n := range list {
		graphs = append(graphs, of(cell(n)))
	}
	return graphs
}

// frames is how many frames have the pairs.
const frames = 3

// loose is a right graph that isn't its own copy: nothing leads to two of its cells, and the others stand in another order.
func loose() api.Graph { return of(cell(1, 3, 2), cell(7, 0), cell(2), cell(3), cell(8, 1)) }

// tight is the copy of loose.
func tight() api.Graph { return of(cell(1, 1, 2), cell(3), cell(2)) }

// pairs is a list of right ports, of three frames: 0 and 3, 1 and 2, 4 and 5 are mates; 4 is shut.
func pairs() []api.Port {
	return []api.Port{
		{Owner: 0, Turn: 0, Mate: 3, Came: numbers(1)},
		{Owner: 1, Turn: 5, Mate: 2},
		{Owner: 1, Turn: 5, Mate: 1, Came: []api.Graph{loose(), {}, of(cell(12))}},
		{Owner: 2, Turn: api.MaxTurns, Mate: 0},
		{Owner: 0, Turn: 1, Mate: 5, Shut: true},
		{Owner: 2, Turn: 0, Mate: 4, Came: numbers(50)},
	}
}

// full is a list of as many right ports as may be, each the mate of one far away, all with as much as can have come.
func full() []api.Port {
	var l []api.Port
	for k := range api.MaxPorts {
		l = append(l, api.Port{Mate: api.MaxPorts - 1 - k, Came: slices.Repeat(numbers(k), api.MaxQueue)})
	}
	return l
}

// noPorts is some of what is no port of the pairs.
var noPorts = []int{math.MinInt, -2, -1, 6, 7, api.MaxPorts, math.MaxInt}

// noFrames is some of what is none of three frames.
var noFrames = []int{math.MinInt, -2, -1, frames, frames + 1, math.MaxInt}

// noTurns is some of what is no turn.
var noTurns = []int{math.MinInt, -2, -1, api.MaxTurns + 1, math.MaxInt}

// wrongGraphs is one of each error that a graph can have.
func wrongGraphs() map[api.Errno]api.Graph {
	return map[api.Errno]api.Graph{
		api.ErrMany:  {Cells: make([]api.Cell, api.MaxCells+1)},
		api.ErrRange: of(cell(1), cell(api.MaxValue+1)),
		api.ErrWho:   of(cell(1), cell(1, 2)),
	}
}

// with is the pairs, but for what is done to one of them.
func with(k int, do func(p *api.Port)) []api.Port {
	l := pairs()
	do(&l[k])
	return l
}

// wantPorts: these ports, and nothing is wrong.
func wantPorts(t *testing.T, what string, got []api.Port, e api.Errno, want []api.Port) {
	t.Helper()
	if e != api.OK || !port.Same(got, want) {
		t.Errorf("%s: %+v, errno %d, want %+v", what, got, e, want)
	}
	if e := port.Check(got, frames); e != api.OK {
		t.Errorf("%s: what is answered is wrong: errno %d", what, e)
	}
}

// wantNone: that error, and nothing beside it.
func wantNone(t *testing.T, what string, got []api.Port, e, want api.Errno) {
	t.Helper()
	if e != want || got != nil {
		t.Errorf("%s: %+v, errno %d, want errno %d", what, got, e, want)
	}
}

// wantRefused: all that is done with port k by this owner at this turn has that error.
func wantRefused(t *testing.T, what string, l []api.Port, count, k, owner, turn int, want api.Errno) {
	t.Helper()
	for _, to := range append([]int{0, 1}, noFrames...) {
		for _, then := range append([]int{0, api.MaxTurns}, noTurns...) {
			got, e := port.Pass(l, count, k, owner, turn, to, then)
			wantNone(t, what+": Pass", got, e, want)
		}
	}
	for _, g := range append(numbers(1), wrongGraphs()[api.ErrMany], wrongGraphs()[api.ErrRange], wrongGraphs()[api.ErrWho]) {
		got, e := port.Push(l, count, k, owner, turn, g)
		wantNone(t, what+": Push", got, e, want)
	}
	got, g, e := port.Pull(l, count, k, owner, turn)
	wantNone(t, what+": Pull", got, e, want)
	if g.Cells != nil {
		t.Errorf("%s: Pull gave %+v, errno %d", what, g, e)
	}
	got, e = port.Shut(l, count, k, owner, turn)
	wantNone(t, what+": Shut", got, e, want)
}

func TestCheckRight(t *testing.T) {
	pair := []api.Port{{Mate: 1}, {Mate: 0}}
	for _, c := range []struct {
		what  string
		l     []api.Port
		count int
	}{
		{"pairs", pairs(), frames},
		{"of more frames than there are owners", pairs(), math.MaxInt},
		{"none", nil, frames},
		{"none, of an empty list", []api.Port{}, 0},
		{"none, of fewer frames than none", nil, math.MinInt},
		{"one pair", pair, 1},
		{"as many as may be, with as much as can have come", full(), 1},
		{"both shut", []api.Port{{Mate: 1, Shut: true}, {Mate: 0, Shut: true}}, 1},
		{"shut, and an empty list came", []api.Port{{Mate: 1, Shut: true, Came: []api.Graph{}}, {Mate: 0}}, 1},
		{"the last turn", []api.Port{{Mate: 1, Turn: api.MaxTurns}, {Mate: 0, Turn: api.MaxTurns}}, 1},
		{"a graph of nothing came", []api.Port{{Mate: 1, Came: []api.Graph{{}}}, {Mate: 0}}, 1},
	} {
		if e := port.Check(c.l, c.count); e != api.OK {
			t.Errorf("%s: errno %d", c.what, e)
		}
	}
}

// wrong is a list of ports that Check refuses, of so many frames.
type wrong struct {
	what  string
	l     []api.Port
	count int
	want  api.Errno
}

// wrongAlone is lists with one thing wrong with one port.
func wrongAlone() []wrong {
	list := []wrong{
		{"one too many", make([]api.Port, api.MaxPorts+1), frames, api.ErrMany},
		{"far too many", make([]api.Port, 200000), frames, api.ErrMany},
		{"an owner fewer", pairs(), frames - 1, api.ErrWho},
		{"of no frames", pairs(), 0, api.ErrWho},
		{"of fewer frames than none", pairs(), -1, api.ErrWho},
		{"of the least number of frames", pairs(), math.MinInt, api.ErrWho},
		{"its mate isn't there", pairs()[:5], frames, api.ErrWho},
		{"alone, its own mate", []api.Port{{}}, 1, api.ErrForm},
		{"three in a ring", []api.Port{{Mate: 1}, {Mate: 2}, {Mate: 0}}, 1, api.ErrForm},
		{"two of one mate", []api.Port{{Mate: 1}, {Mate: 0}, {Mate: 0}, {Mate: 2}}, 1, api.ErrForm},
	}
	for k := range pairs() {
		for _, none := range noFrames {
			list = append(list, wrong{"no owner", with(k, func(p *api.Port) { p.Owner = none }), frames, api.ErrWho})
		}
		for _, none := range noTurns {
			list = append(list, wrong{"no turn", with(k, func(p *api.Port) { p.Turn = none }), frames, api.ErrRange})
		}
		for _, many := range []int{api.MaxQueue + 1, 200000} {
			list = append(list, wrong{"too many came", with(k, func(p *api.Port) { p.Came = make([]api.Graph, many) }), frames, api.ErrMany})
		}
		list = append(list, wrong{"some came, and it is shut", with(k, func(p *api.Port) { p.Came, p.Shut = make([]api.Graph, 1), true }), frames, api.ErrMany})
		if k == 4 {
			continue
		}
		for e, g := range wrongGraphs() {
			list = append(list, wrong{"a wrong one came first", with(k, func(p *api.Port) { p.Came = []api.Graph{g, {}} }), frames, e})
			list = append(list, wrong{"a wrong one came last", with(k, func(p *api.Port) { p.Came = append(make([]api.Graph, api.MaxQueue-1), g) }), frames, e})
		}
	}
	// The first one is asked first: its mate's Mate isn't it, or it has none.
	for _, none := range noPorts {
		list = append(list, wrong{"no mate", with(0, func(p *api.Port) { p.Mate = none }), frames, api.ErrWho})
	}
	for mate := range pairs() {
		if mate != 3 {
			list = append(list, wrong{"another one's mate", with(0, func(p *api.Port) { p.Mate = mate }), frames, api.ErrForm})
		}
	}
	return list
}

// wrongTwice is lists with two things wrong, of which one is told first.
func wrongTwice() []wrong {
	graphs := wrongGraphs()
	two := func(what string, want api.Errno, first, second api.Port) wrong {
		return wrong{what, []api.Port{first, second}, 1, want}
	}
	tooMany := make([]api.Port, api.MaxPorts+1)
	tooMany[0].Owner = -1
	right := api.Port{Mate: 0}
	return []wrong{
		{"too many, no owner", tooMany, frames, api.ErrMany},
		two("no owner, its own mate", api.ErrWho, api.Port{Owner: 1}, right),
		two("no mate, no turn", api.ErrWho, api.Port{Mate: 2, Turn: -1}, right),
		two("no owner, too many came", api.ErrWho, api.Port{Owner: -1, Mate: 1, Came: make([]api.Graph, api.MaxQueue+1)}, right),
		two("its own mate, no turn", api.ErrForm, api.Port{Mate: 0, Turn: -1}, right),
		two("its own mate, a wrong one came", api.ErrForm, api.Port{Mate: 0, Came: []api.Graph{graphs[api.ErrWho]}}, right),
		two("its mate's mate is itself, no owner of that", api.ErrForm, api.Port{Mate: 1}, api.Port{Owner: 1, Mate: 1}),
		two("its mate's mate is none", api.ErrForm, api.Port{Mate: 1}, api.Port{Mate: 7}),
		two("no turn, too many came", api.ErrRange, api.Port{Mate: 1, Turn: api.MaxTurns + 1, Came: make([]api.Graph, api.MaxQueue+1)}, right),
		two("no turn, a wrong one came", api.ErrRange, api.Port{Mate: 1, Turn: -1, Came: []api.Graph{graphs[api.ErrWho]}}, right),
		two("no turn, no owner of the next", api.ErrRange, api.Port{Mate: 1, Turn: -1}, api.Port{Owner: 1}),
		two("too many came, wrong ones", api.ErrMany, api.Port{Mate: 1, Came: slices.Repeat([]api.Graph{graphs[api.ErrWho]}, api.MaxQueue+1)}, right),
		two("shut, and a wrong one came", api.ErrMany, api.Port{Mate: 1, Shut: true, Came: []api.Graph{graphs[api.ErrWho]}}, right),
		two("shut, and some came, no owner of the next", api.ErrMany, api.Port{Mate: 1, Shut: true, Came: numbers(1)}, api.Port{Owner: 1}),
		two("two wrong ones came", api.ErrRange, api.Port{Mate: 1, Came: []api.Graph{graphs[api.ErrRange], graphs[api.ErrWho]}}, right),
		two("two wrong ones came, the other way round", api.ErrWho, api.Port{Mate: 1, Came: []api.Graph{graphs[api.ErrWho], graphs[api.ErrRange]}}, right),
		two("a wrong one came, no turn of the next", api.ErrWho, api.Port{Mate: 1, Came: []api.Graph{graphs[api.ErrWho]}}, api.Port{Turn: -1}),
		two("a wrong one came, no owner of the next", api.ErrRange, api.Port{Mate: 1, Came: []api.Graph{graphs[api.ErrRange]}}, api.Port{Owner: 1}),
	}
}

// TestCheckWrong: each error, which of them is told first, and that all calls say it ahead of all else.
func TestCheckWrong(t *testing.T) {
	for _, c := range append(wrongAlone(), wrongTwice()...) {
		if e := port.Check(c.l, c.count); e != c.want {
			t.Errorf("%s: errno %d, want %d", c.what, e, c.want)
		}
		for _, k := range []int{-1, 0, 4, 5, 200000} {
			for _, turn := range []int{-1, 0} {
				wantRefused(t, c.what, c.l, c.count, k, 0, turn, c.want)
				got, first, e := port.Open(c.l, c.count, k, turn)
				wantNone(t, c.what+": Open", got, e, c.want)
				if first != 0 {
					t.Errorf("%s: Open: the number %d, errno %d", c.what, first, e)
				}
			}
		}
	}
}

func TestSame(t *testing.T) {
	if !port.Same(pairs(), pairs()) || !port.Same(nil, []api.Port{}) {
		t.Error("ports aren't the same as their like")
	}
	alike := with(1, func(p *api.Port) { p.Came = []api.Graph{} })
	if !port.Same(pairs(), alike) || !port.Same(alike, pairs()) {
		t.Error("nothing that came isn't the same as nothing")
	}
	moved := pairs()
	moved[0], moved[1] = moved[1], moved[0]
	for what, other := range map[string][]api.Port{
		"Owner":            with(5, func(p *api.Port) { p.Owner = 1 }),
		"Turn":             with(0, func(p *api.Port) { p.Turn = 1 }),
		"Mate":             with(3, func(p *api.Port) { p.Mate = 1 }),
		"Shut":             with(4, func(p *api.Port) { p.Shut = false }),
		"number":           with(0, func(p *api.Port) { p.Came[0].Cells[0].N = 2 }),
		"kid":              with(2, func(p *api.Port) { p.Came[0].Cells[1].Kids[0] = 1 }),
		"one that is like": with(2, func(p *api.Port) { p.Came[0] = tight() }),
		"order of what came": with(2, func(p *api.Port) {
			p.Came[0], p.Came[2] = p.Came[2], p.Came[0]
		}),
		"one that came more":  with(3, func(p *api.Port) { p.Came = make([]api.Graph, 1) }),
		"one that came fewer": with(2, func(p *api.Port) { p.Came = p.Came[:2] }),
		"port fewer":          pairs()[:5],
		"port more":           append(pairs(), api.Port{}),
		"order":               moved,
		"nothing":             nil,
	} {
		if port.Same(pairs(), other) || port.Same(other, pairs()) {
			t.Errorf("the same, with another: %s", what)
		}
	}
}

// TestSameTakesAny: wrong ports, too.
func TestSameTakesAny(t *testing.T) {
	wild := func() []api.Port {
		return []api.Port{
			{Owner: -7, Turn: math.MinInt, Mate: 99, Shut: true, Came: []api.Graph{of(cell(math.MaxInt, -1, 8))}},
			{Owner: math.MaxInt, Mate: 1, Came: make([]api.Graph, 200000)},
		}
	}
	if !port.Same(wild(), wild()) {
		t.Error("wrong ports aren't the same as their like")
	}
	other := wild()
	other[1].Came[199999] = of(cell(0))
	if port.Same(wild(), other) || port.Same(make([]api.Port, 200000), make([]api.Port, 200001)) {
		t.Error("wrong ports that differ are the same")
	}
}

func TestOpen(t *testing.T) {
	l, first, e := port.Open(nil, 1, 0, 0)
	wantPorts(t, "the first", l, e, []api.Port{{Mate: 1}, {Mate: 0}})
	if first != 0 {
		t.Errorf("the first: the number %d", first)
	}
	for owner := range frames {
		for _, turn := range []int{0, 1, 7, api.MaxTurns} {
			l, first, e = port.Open(pairs(), frames, owner, turn)
			want := append(pairs(), api.Port{Owner: owner, Turn: turn, Mate: 7}, api.Port{Owner: owner, Turn: turn, Mate: 6})
			wantPorts(t, "behind the others", l, e, want)
			if first != 6 {
				t.Errorf("behind the others: the number %d", first)
			}
		}
	}
}

// TestOpenAll: pair by pair, until there are as many as may be.
func TestOpenAll(t *testing.T) {
	var l, want []api.Port
	for k := 0; k < api.MaxPorts; k += 2 {
		var first int
		var e api.Errno
		l, first, e = port.Open(l, frames, k%frames, k)
		want = append(want, api.Port{Owner: k % frames, Turn: k, Mate: k + 1}, api.Port{Owner: k % frames, Turn: k, Mate: k})
		wantPorts(t, "pair by pair", l, e, want)
		if first != k {
			t.Errorf("the number %d, want %d", first, k)
		}
	}
	got, first, e := port.Open(l, frames, 0, 0)
	wantNone(t, "one pair too many", got, e, api.ErrMany)
	if first != 0 {
		t.Errorf("one pair too many: the number %d", first)
	}
}

// TestOpenErrors: each error, and which of them is told first.
func TestOpenErrors(t *testing.T) {
	want := func(what string, l []api.Port, count, owner, turn int, want api.Errno) {
		t.Helper()
		got, first, e := port.Open(l, count, owner, turn)
		wantNone(t, what, got, e, want)
		if first != 0 {
			t.Errorf("%s: the number %d", what, first)
		}
	}
	for _, turn := range append([]int{0, api.MaxTurns}, noTurns...) {
		for _, owner := range noFrames {
			want("no owner", pairs(), frames, owner, turn, api.ErrWho)
			want("no owner, and no room", full(), frames, owner, turn, api.ErrWho)
			want("of fewer frames than none", nil, math.MinInt, owner, turn, api.ErrWho)
		}
		want("of no frames", nil, 0, 0, turn, api.ErrWho)
		want("of the least number of frames", nil, math.MinInt, 0, turn, api.ErrWho)
	}
	for _, turn := range noTurns {
		want("no turn", pairs(), frames, 2, turn, api.ErrRange)
		want("no turn, and no room", full(), frames, 2, turn, api.ErrRange)
	}
	want("no room", full(), frames, 2, api.MaxTurns, api.ErrMany)
	shut := full()
	for k := range shut {
		shut[k].Came, shut[k].Shut = nil, true
	}
	want("no room, though all are shut", shut, frames, 0, 0, api.ErrMany)
}

// TestRefused: no port; one of another owner, or turn; one that is shut: in this order, ahead of all else.
func TestRefused(t *testing.T) {
	for k, p := range pairs() {
		for _, none := range noPorts {
			wantRefused(t, "no port", pairs(), frames, none, p.Owner, p.Turn, api.ErrWho)
			wantRefused(t, "no port of none", nil, frames, none, p.Owner, p.Turn, api.ErrWho)
		}
		for _, owner := range append([]int{0, 1, 2}, noFrames...) {
			if owner != p.Owner {
				wantRefused(t, "not this owner's", pairs(), frames, k, owner, p.Turn, api.ErrSecret)
			}
		}
		for _, turn := range append([]int{0, 1, 2, 5, api.MaxTurns - 1, api.MaxTurns}, noTurns...) {
			if turn != p.Turn {
				wantRefused(t, "not at this turn", pairs(), frames, k, p.Owner, turn, api.ErrSecret)
			}
		}
	}
	wantRefused(t, "the first of none", nil, 0, 0, 0, 0, api.ErrWho)
	wantRefused(t, "its mate's owner", pairs(), frames, 0, 2, api.MaxTurns, api.ErrSecret)
	wantRefused(t, "shut, another owner's", pairs(), frames, 4, 2, 1, api.ErrSecret)
	wantRefused(t, "shut", pairs(), frames, 4, 0, 1, api.ErrGone)
}

// TestPass: it alone is another one's; what came goes along; its mate's owner stays.
func TestPass(t *testing.T) {
	for k, p := range pairs() {
		if p.Shut {
			continue
		}
		for to := range frames {
			for _, then := range []int{0, 1, p.Turn, api.MaxTurns} {
				l, e := port.Pass(pairs(), frames, k, p.Owner, p.Turn, to, then)
				wantPorts(t, "passed", l, e, with(k, func(p *api.Port) { p.Owner, p.Turn = to, then }))
				if to != p.Owner || then != p.Turn {
					wantRefused(t, "not its own any more", l, frames, k, p.Owner, p.Turn, api.ErrSecret)
				}
			}
		}
	}
}

func TestPassErrors(t *testing.T) {
	for _, to := range noFrames {
		for _, then := range append([]int{0, api.MaxTurns}, noTurns...) {
			got, e := port.Pass(pairs(), frames, 0, 0, 0, to, then)
			wantNone(t, "to none", got, e, api.ErrWho)
		}
	}
	for to := range frames {
		for _, then := range noTurns {
			got, e := port.Pass(pairs(), frames, 0, 0, 0, to, then)
			wantNone(t, "at no turn", got, e, api.ErrRange)
		}
	}
}

// TestPush: the copy comes to the mate, behind the others, and to nobody else.
func TestPush(t *testing.T) {
	for k, p := range pairs() {
		if k == 4 || k == 5 {
			continue
		}
		for what, g := range map[string][2]api.Graph{
			"nothing":            {{}, {}},
			"one":                {of(cell(-api.MaxValue)), of(cell(-api.MaxValue))},
			"a ring":             {of(cell(1, 1), cell(2, 0)), of(cell(1, 1), cell(2, 0))},
			"its copy, as it is": {tight(), tight()},
			"its copy":           {loose(), tight()},
		} {
			l, e := port.Push(pairs(), frames, k, p.Owner, p.Turn, g[0])
			wantPorts(t, what, l, e, with(p.Mate, func(mate *api.Port) { mate.Came = append(mate.Came, g[1]) }))
		}
	}
}

// TestPushUntilFull: as many as can come, in order.
func TestPushUntilFull(t *testing.T) {
	l := pairs()
	var sent []int
	for n := range api.MaxQueue {
		var e api.Errno
		l, e = port.Push(l, frames, 0, 0, 0, of(cell(n)))
		sent = append(sent, n)
		wantPorts(t, "one by one", l, e, with(3, func(p *api.Port) { p.Came = numbers(sent...) }))
	}
	got, e := port.Push(l, frames, 0, 0, 0, of(cell(99)))
	wantNone(t, "one too many", got, e, api.ErrMany)
	// The other way there is room.
	got, e = port.Push(l, frames, 3, 2, api.MaxTurns, of(cell(99)))
	want := slices.Clone(l)
	want[0].Came = numbers(1, 99)
	wantPorts(t, "the other way", got, e, want)
	l, _, _ = port.Pull(l, frames, 3, 2, api.MaxTurns)
	if l, e = port.Push(l, frames, 0, 0, 0, of(cell(99))); e != api.OK || l[3].Came[15].Cells[0].N != 99 || l[3].Came[0].Cells[0].N != 1 {
		t.Errorf("when one was pulled: %+v, errno %d", l, e)
	}
}

// TestPushErrors: each error, and which of them is told first.
func TestPushErrors(t *testing.T) {
	for want, g := range wrongGraphs() {
		got, e := port.Push(pairs(), frames, 0, 0, 0, g)
		wantNone(t, "a wrong one", got, e, want)
		got, e = port.Push(pairs(), frames, 5, 2, 0, g)
		wantNone(t, "a wrong one, and its mate is shut", got, e, want)
		got, e = port.Push(full(), 1, 0, 0, 0, g)
		wantNone(t, "a wrong one, and no room", got, e, want)
	}
	for _, g := range []api.Graph{{}, loose()} {
		got, e := port.Push(pairs(), frames, 5, 2, 0, g)
		wantNone(t, "its mate is shut", got, e, api.ErrGone)
		for k := range full() {
			got, e = port.Push(full(), 1, k, 0, 0, g)
			wantNone(t, "no room", got, e, api.ErrMany)
		}
	}
}

// TestPull: what came first, as it came, goes from it, and from nobody else.
func TestPull(t *testing.T) {
	for k, p := range pairs() {
		l := pairs()
		for n, want := range p.Came {
			var got api.Graph
			var e api.Errno
			l, got, e = port.Pull(l, frames, k, p.Owner, p.Turn)
			wantPorts(t, "pulled", l, e, with(k, func(p *api.Port) { p.Came = p.Came[n+1:] }))
			if !clone.Same(got, want) {
				t.Errorf("from %d: %+v, want %+v", k, got, want)
			}
		}
		if !p.Shut {
			got, g, e := port.Pull(l, frames, k, p.Owner, p.Turn)
			wantNone(t, "nothing came", got, e, api.ErrLate)
			if g.Cells != nil {
				t.Errorf("nothing came to %d: %+v", k, g)
			}
		}
	}
}

// TestPullAsItCame: not only what the first cell leads to: Pull makes no copy of the kind that Push makes.
func TestPullAsItCame(t *testing.T) {
	_, got, e := port.Pull(pairs(), frames, 2, 1, 5)
	if e != api.OK || !clone.Same(got, loose()) {
		t.Errorf("%+v, errno %d, want %+v", got, e, loose())
	}
}

// TestShut: it is shut, and what came to it is lost; what it sent its mate can pull, but not answer.
func TestShut(t *testing.T) {
	for k, p := range pairs() {
		if p.Shut {
			continue
		}
		l, e := port.Shut(pairs(), frames, k, p.Owner, p.Turn)
		wantPorts(t, "shut", l, e, with(k, func(p *api.Port) { p.Shut, p.Came = true, nil }))
		wantRefused(t, "shut", l, frames, k, p.Owner, p.Turn, api.ErrGone)
	}
	l, e := port.Shut(pairs(), frames, 0, 0, 0)
	if e != api.OK {
		t.Fatal(e)
	}
	got, e := port.Push(l, frames, 3, 2, api.MaxTurns, of(cell(1)))
	wantNone(t, "into one whose mate is shut", got, e, api.ErrGone)
	l, e = port.Shut(l, frames, 3, 2, api.MaxTurns)
	want := pairs()
	want[0].Came, want[0].Shut, want[3].Shut = nil, true, true
	wantPorts(t, "both", l, e, want)
}

// TestShutLeavesWhatItSent: what is with the mate stays there.
func TestShutLeavesWhatItSent(t *testing.T) {
	l, e := port.Push(pairs(), frames, 3, 2, api.MaxTurns, of(cell(2)))
	if e != api.OK {
		t.Fatal(e)
	}
	if l, e = port.Shut(l, frames, 3, 2, api.MaxTurns); e != api.OK {
		t.Fatal(e)
	}
	for _, n := range []int{1, 2} {
		var g api.Graph
		l, g, e = port.Pull(l, frames, 0, 0, 0)
		if e != api.OK || !clone.Same(g, of(cell(n))) {
			t.Errorf("%+v, errno %d, want the number %d", g, e, n)
		}
	}
	got, _, e := port.Pull(l, frames, 0, 0, 0)
	wantNone(t, "no more", got, e, api.ErrLate)
	// It can be passed on still, and shut.
	l, e = port.Pass(l, frames, 0, 0, 0, 1, 1)
	want := pairs()
	want[0] = api.Port{Owner: 1, Turn: 1, Mate: 3}
	want[3].Shut = true
	wantPorts(t, "passed on", l, e, want)
	l, e = port.Shut(l, frames, 0, 1, 1)
	want[0].Shut = true
	wantPorts(t, "shut, too", l, e, want)
}
