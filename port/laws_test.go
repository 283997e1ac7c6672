package port_test

import (
	"math"
	"reflect"
	"slices"
	"testing"

	"glasshouse/api"
	"glasshouse/clone"
	"glasshouse/port"
)

// finding is what is wrong with a port: where, and how early it is told.
type finding struct {
	at, rank int
	e        api.Errno
}

// findings is all that is wrong with ports, in no order.
func findings(l []api.Port, count int) []finding {
	var all []finding
	for k, p := range l {
		note := func(rank int, e api.Errno, is bool) {
			if is {
				all = append(all, finding{k, rank, e})
			}
		}
		hasMate := p.Mate >= 0 && p.Mate < len(l)
		note(1, api.ErrWho, p.Owner < 0 || p.Owner >= count)
		note(1, api.ErrWho, !hasMate)
		note(2, api.ErrForm, p.Mate == k)
		note(2, api.ErrForm, hasMate && l[p.Mate].Mate != k)
		note(3, api.ErrRange, p.Turn < 0 || p.Turn > 1000)
		note(4, api.ErrMany, len(p.Came) > 16)
		note(4, api.ErrMany, len(p.Came) > 0 && p.Shut)
		for j, g := range p.Came {
			e := clone.Check(g)
			note(5+j, e, e != api.OK)
		}
	}
	return all
}

// told is what the chapter says of ports: the earliest of all that is wrong with them.
func told(l []api.Port, count int) api.Errno {
	if len(l) > 12 {
		return api.ErrMany
	}
	all := findings(l, count)
	if len(all) == 0 {
		return api.OK
	}
	return slices.MinFunc(all, func(a, b finding) int {
		if a.at != b.at {
			return a.at - b.at
		}
		return a.rank - b.rank
	}).e
}

// some is what ports of a small list can be of.
type some struct {
	owners, turns []int
	came          [][]api.Graph
	shut          []bool
}

// each visits all lists of so many ports, of any mates.
func (s some) each(ports int, visit func(l []api.Port)) {
	l := make([]api.Port, ports)
	var fill func(k int)
	fill = func(k int) {
		if k == ports {
			visit(l)
			return
		}
		for mate := -1; mate <= ports; mate++ {
			for _, owner := range s.owners {
				for _, turn := range s.turns {
					for _, came := range s.came {
						for _, shut := range s.shut {
							l[k] = api.Port{Owner: owner, Turn: turn, Mate: mate, Came: came, Shut: shut}
							fill(k + 1)
						}
					}
				}
			}
		}
	}
	fill(0)
}

// TestAllSmall: Check says what the chapter says of all lists of up to two ports, of a few owners, turns and graphs, right and wrong ones, and any mates; of three, of fewer of these; and of four that differ by their mates alone.
func TestAllSmall(t *testing.T) {
	tally := map[api.Errno]int{}
	hold := func(l []api.Port) {
		for count := range 3 {
			want := told(l, count)
			if e := port.Check(l, count); e != want {
				t.Fatalf("%+v, of %d frames: errno %d, want %d", l, count, e, want)
			}
			tally[want]++
		}
	}
	graphs := wrongGraphs()
	wide := some{
		owners: []int{-1, 0, 1},
		turns:  []int{-1, 0, 1000, 1001},
		came:   [][]api.Graph{nil, numbers(1), {{}, graphs[api.ErrRange]}, {graphs[api.ErrWho], graphs[api.ErrRange]}, make([]api.Graph, 17)},
		shut:   []bool{false, true},
	}
	for ports := range 3 {
		wide.each(ports, hold)
	}
	some{owners: []int{0, 1}, turns: []int{0, 1001}, came: [][]api.Graph{nil, numbers(1)}, shut: []bool{false, true}}.each(3, hold)
	some{owners: []int{0}, turns: []int{0}, came: [][]api.Graph{nil}, shut: []bool{false}}.each(4, hold)
	for _, e := range []api.Errno{api.OK, api.ErrMany, api.ErrRange, api.ErrForm, api.ErrWho} {
		if tally[e] < 50 {
			t.Errorf("errno %d: %d times: too few", e, tally[e])
		}
	}
}

// end is one end of a line: who has it, and whether it is shut.
type end struct {
	owner, turn int
	shut        bool
}

// lines is a model of ports that are opened pair by pair: of each port who has it, and what is on the way to it.
type lines struct {
	ends []end
	way  [][]int
}

// refuses is what keeps an owner, at a turn, from port k.
func (m *lines) refuses(k, owner, turn int) api.Errno {
	switch {
	case k < 0 || k >= len(m.ends):
		return api.ErrWho
	case m.ends[k].owner != owner || m.ends[k].turn != turn:
		return api.ErrSecret
	case m.ends[k].shut:
		return api.ErrGone
	}
	return api.OK
}

// open puts two ends behind the others.
func (m *lines) open(owner, turn int) (int, api.Errno) {
	if len(m.ends) > 10 {
		return 0, api.ErrMany
	}
	m.ends = append(m.ends, end{owner: owner, turn: turn}, end{owner: owner, turn: turn})
	m.way = append(m.way, nil, nil)
	return len(m.ends) - 2, api.OK
}

// push puts a number on the way to the other end: of ends that are opened two by two, that is the odd one of an even one, and the other way round.
func (m *lines) push(k, owner, turn, n int) api.Errno {
	if e := m.refuses(k, owner, turn); e != api.OK {
		return e
	}
	switch other := k ^ 1; {
	case m.ends[other].shut:
		return api.ErrGone
	case len(m.way[other]) >= 16:
		return api.ErrMany
	default:
		m.way[other] = append(m.way[other], n)
	}
	return api.OK
}

// pull takes what is on the way longest.
func (m *lines) pull(k, owner, turn int) (int, api.Errno) {
	if e := m.refuses(k, owner, turn); e != api.OK {
		return 0, e
	}
	if len(m.way[k]) == 0 {
		return 0, api.ErrLate
	}
	n := m.way[k][0]
	m.way[k] = m.way[k][1:]
	return n, api.OK
}

// pass gives an end to another one.
func (m *lines) pass(k, owner, turn, to, then int) api.Errno {
	e := m.refuses(k, owner, turn)
	if e == api.OK {
		m.ends[k].owner, m.ends[k].turn = to, then
	}
	return e
}

// shutEnd lets nothing be on the way to it any more.
func (m *lines) shutEnd(k, owner, turn int) api.Errno {
	e := m.refuses(k, owner, turn)
	if e == api.OK {
		m.ends[k].shut, m.way[k] = true, nil
	}
	return e
}

// ports is what the model stands for.
func (m *lines) ports() []api.Port {
	var l []api.Port
	for k, x := range m.ends {
		l = append(l, api.Port{Owner: x.owner, Turn: x.turn, Mate: k ^ 1, Shut: x.shut, Came: numbers(m.way[k]...)})
	}
	return l
}

// play is ports and their model, side by side.
type play struct {
	l     []api.Port
	model lines
	seed  int
}

// next is another number from 0 to below, at each step.
func (p *play) next(below int) int {
	p.seed = (p.seed*75 + 74) % 65537
	return p.seed % below
}

// port is one of the ports, mostly, and who has it, mostly.
func (p *play) port() (k, owner, turn int) {
	k, owner, turn = p.next(api.MaxPorts), p.next(frames), p.next(3)
	if k < len(p.l) && p.next(8) > 0 {
		owner, turn = p.l[k].Owner, p.l[k].Turn
	}
	return k, owner, turn
}

// step does one thing to both, and answers what was done, and both errors.
func (p *play) step(t *testing.T, n int) (kind int, l []api.Port, got, want api.Errno) {
	t.Helper()
	k, owner, turn := p.port()
	switch kind = p.next(40); {
	case kind == 0:
		var first, second int
		l, first, got = port.Open(p.l, frames, owner, turn)
		if second, want = p.model.open(owner, turn); first != second {
			t.Fatalf("step %d: opened %d, want %d", n, first, second)
		}
		return 1, l, got, want
	case kind == 1 && p.next(4) == 0:
		l, got = port.Shut(p.l, frames, k, owner, turn)
		return 2, l, got, p.model.shutEnd(k, owner, turn)
	case kind < 8:
		to, then := p.next(frames), p.next(3)
		l, got = port.Pass(p.l, frames, k, owner, turn, to, then)
		return 3, l, got, p.model.pass(k, owner, turn, to, then)
	case kind < 8+12+8*(n/500%2):
		// What nothing leads to doesn't come along.
		l, got = port.Push(p.l, frames, k, owner, turn, of(cell(n), cell(-n, 0)))
		return 4, l, got, p.model.push(k, owner, turn, n)
	}
	l, g, got := port.Pull(p.l, frames, k, owner, turn)
	number, want := p.model.pull(k, owner, turn)
	if want == api.OK && !clone.Same(g, of(cell(number))) || want != api.OK && g.Cells != nil {
		t.Fatalf("step %d: pulled %+v, want %d, errno %d", n, g, number, want)
	}
	return 5, l, got, want
}

// TestInOrder: whatever is done, by whom, in which order: what is pushed into one comes out of its mate, in order, whoever has it then, and for nobody else. What has an error changes nothing.
func TestInOrder(t *testing.T) {
	tally := map[[2]int]int{} // how often each kind of step had each error
	for seed := range 40 {
		p := play{seed: seed}
		for n := range 2000 {
			kind, l, got, want := p.step(t, n)
			if got != want || want != api.OK && l != nil {
				t.Fatalf("seed %d, step %d, of kind %d: errno %d, want %d", seed, n, kind, got, want)
			}
			if want == api.OK {
				p.l = l
			}
			if !port.Same(p.l, p.model.ports()) || port.Check(p.l, frames) != api.OK {
				t.Fatalf("seed %d, step %d, of kind %d: %+v, want %+v", seed, n, kind, p.l, p.model.ports())
			}
			tally[[2]int{kind, int(want)}]++
		}
	}
	for kind, errors := range [][]api.Errno{
		1: {api.OK, api.ErrMany},
		2: {api.OK, api.ErrWho, api.ErrSecret, api.ErrGone},
		3: {api.OK, api.ErrWho, api.ErrSecret, api.ErrGone},
		4: {api.OK, api.ErrWho, api.ErrSecret, api.ErrGone, api.ErrMany},
		5: {api.OK, api.ErrWho, api.ErrSecret, api.ErrGone, api.ErrLate},
	} {
		for _, e := range errors {
			if tally[[2]int{kind, int(e)}] < 20 {
				t.Errorf("kind %d, errno %d: %d times: too few", kind, e, tally[[2]int{kind, int(e)}])
			}
		}
	}
}

// roomy is the pairs in memory with spare room behind each list, and all of that memory.
func roomy() (l []api.Port, room func() []any) {
	var all []any
	kids := func(list []int) []int {
		long := append(slices.Clone(list), 70, 71)
		all = append(all, long)
		return long[:len(list)]
	}
	cells := func(list []api.Cell) []api.Cell {
		long := append(slices.Clone(list), cell(72, 73), cell(74))
		for k := range list {
			long[k].Kids = kids(list[k].Kids)
		}
		all = append(all, long)
		return long[:len(list)]
	}
	came := func(list []api.Graph) []api.Graph {
		long := append(slices.Clone(list), of(cell(75)), of(cell(76)))
		for k := range list {
			long[k].Cells = cells(list[k].Cells)
		}
		all = append(all, long)
		return long[:len(list)]
	}
	ports := append(pairs(), api.Port{Owner: 77}, api.Port{Owner: 78}, api.Port{Owner: 79})
	for k := range pairs() {
		ports[k].Came = came(ports[k].Came)
	}
	all = append(all, ports)
	return ports[:len(pairs())], func() []any { return all }
}

// answers is what each call makes of the pairs; Pull's graph stands as what came to one more port.
func answers(l []api.Port, g api.Graph) [][]api.Port {
	opened, _, _ := port.Open(l, frames, 1, 2)
	passed, _ := port.Pass(l, frames, 2, 1, 5, 0, 0)
	pushed, _ := port.Push(l, frames, 1, 1, 5, g)
	pulled, first, _ := port.Pull(l, frames, 2, 1, 5)
	shut, _ := port.Shut(l, frames, 5, 2, 0)
	return [][]api.Port{opened, passed, pushed, append(slices.Clip(pulled), api.Port{Came: []api.Graph{first}}), shut}
}

// spoil writes to all memory of a list of ports, the spare room, too; each list its own number.
func spoil(l []api.Port) (whole bool) {
	var lists [][]int
	for _, p := range l {
		for _, g := range p.Came[:cap(p.Came)] {
			for _, c := range g.Cells[:cap(g.Cells)] {
				lists = append(lists, c.Kids[:cap(c.Kids)])
			}
		}
	}
	for n, list := range lists {
		for k := range list {
			list[k] = 1000 + n
		}
	}
	whole = true
	for n, list := range lists {
		whole = whole && !slices.ContainsFunc(list, func(kid int) bool { return kid != 1000+n })
	}
	for _, p := range l {
		for _, g := range p.Came[:cap(p.Came)] {
			clear(g.Cells[:cap(g.Cells)])
		}
		clear(p.Came[:cap(p.Came)])
	}
	clear(l[:cap(l)])
	return whole
}

// TestOnlyRead: what was handed in stays as it was, and the spare room behind it, whatever is done to the answers; and no two lists of Kids of an answer share any memory.
func TestOnlyRead(t *testing.T) {
	l, room := roomy()
	_, want := roomy()
	g, was := loose(), loose()
	plain := answers(pairs(), loose())
	for k, answer := range answers(l, g) {
		if !port.Same(answer, plain[k]) || len(answer) < len(l) {
			t.Errorf("answer %d: %+v, want %+v", k, answer, plain[k])
		}
		if !spoil(answer) {
			t.Errorf("answer %d: two lists share memory", k)
		}
	}
	port.Check(l, frames)
	port.Same(l, l)
	if !reflect.DeepEqual(room(), want()) || !clone.Same(g, was) {
		t.Errorf("what was handed in is %+v, want %+v", room(), want())
	}
}

// TestSharedLists: lists that were handed in as one are one each in the answer, on all levels, and so is what Pull gives beside them.
func TestSharedLists(t *testing.T) {
	one := []api.Graph{of(cell(1, 1, 0), cell(2, 1)), of(cell(1, 1, 0), cell(2, 1))}
	one[1].Cells = one[0].Cells
	l := []api.Port{{Mate: 1, Came: one}, {Mate: 0, Came: one}}
	for k := range l {
		pulled, first, e := port.Pull(l, 1, k, 0, 0)
		if e != api.OK || !clone.Same(first, one[0]) {
			t.Fatalf("%+v, errno %d", first, e)
		}
		first.Cells[0] = cell(9)
		first.Cells[1].Kids[0] = 9
		other := pulled[1-k].Came
		other[0].Cells[1].Kids[0] = 8
		other[0] = api.Graph{}
		if !clone.Same(other[1], one[0]) || !clone.Same(pulled[k].Came[0], one[0]) || one[0].Cells[1].Kids[0] != 1 {
			t.Errorf("%+v: shared memory, of %+v", pulled, one)
		}
	}
	pushed, e := port.Push(l, 1, 0, 0, 0, one[0])
	if e != api.OK {
		t.Fatal(e)
	}
	pushed[1].Came[2].Cells[1].Kids[0] = 7
	if !clone.Same(pushed[1].Came[0], one[0]) || one[0].Cells[1].Kids[0] != 1 {
		t.Errorf("%+v: shared memory, of %+v", pushed, one)
	}
}

// TestWild: no call panics, and each ends, whatever it is given; what Check says, the others say; the same call answers the same.
func TestWild(t *testing.T) {
	wild := []int{math.MinInt, -1, 0, 1, 2, api.MaxTurns, math.MaxInt}
	lists := [][]api.Port{nil, pairs(), full(), make([]api.Port, 100000), {{Mate: 1, Came: make([]api.Graph, 100000)}, {}}}
	for _, a := range wild {
		for _, b := range wild {
			p := api.Port{Owner: a, Turn: b, Mate: a, Came: []api.Graph{of(cell(a, b))}}
			lists = append(lists, []api.Port{p}, []api.Port{p, {Mate: b, Shut: true}}, []api.Port{{Owner: b, Mate: 1, Turn: a}, {Mate: 0, Owner: a, Turn: b}})
		}
	}
	for _, l := range lists {
		for _, count := range wild {
			for _, k := range wild {
				for _, n := range wild {
					holdWild(t, l, count, k, n)
				}
			}
		}
	}
}

// holdWild: of any numbers, each call answers the same twice, nothing beside an error, right ports without one, and what Check says.
func holdWild(t *testing.T, l []api.Port, count, k, n int) {
	t.Helper()
	wrong := port.Check(l, count)
	if wrong != told(l, count) {
		t.Fatalf("%+v, of %d frames: errno %d, want %d", l, count, wrong, told(l, count))
	}
	for kind, call := range []func() ([]api.Port, api.Errno){
		func() ([]api.Port, api.Errno) { got, _, e := port.Open(l, count, k, n); return got, e },
		func() ([]api.Port, api.Errno) { return port.Pass(l, count, k, 0, n, n, k) },
		func() ([]api.Port, api.Errno) { return port.Push(l, count, k, 0, n, of(cell(n, k))) },
		func() ([]api.Port, api.Errno) { got, _, e := port.Pull(l, count, k, n, 0); return got, e },
		func() ([]api.Port, api.Errno) { return port.Shut(l, count, k, n, 0) },
	} {
		got, e := call()
		again, f := call()
		if e != f || !port.Same(got, again) {
			t.Fatalf("kind %d of %+v, %d, %d, %d: %+v, errno %d; again %+v, errno %d", kind, l, count, k, n, got, e, again, f)
		}
		if e != api.OK && got != nil || wrong != api.OK && e != wrong || e == api.OK && port.Check(got, count) != api.OK {
			t.Fatalf("kind %d of %+v, %d, %d, %d: %+v, errno %d", kind, l, count, k, n, got, e)
		}
	}
}
