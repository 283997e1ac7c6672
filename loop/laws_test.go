package loop_test

import (
	"math"
	"slices"
	"testing"

	"glasshouse/api"
	"glasshouse/loop"
	"glasshouse/realm"
)

// box is a frame of the model, with all that it has.
type box struct {
	in                *box // nil: none
	origin, may, turn int
	gone              bool
	r                 api.Realm
	program           []api.Act
	queue             []api.Mail
}

// end is one of two ends of a line: who has it, since which turn; what came to it.
type end struct {
	of    *box
	turn  int
	other *end
	came  []api.Graph
	shut  bool
}

// model is a world of boxes and lines.
type model struct {
	boxes []*box
	ends  []*end
}

// modelOf is the model of a right world.
func modelOf(w api.World) *model {
	m := &model{}
	for k, f := range w.Frames {
		b := &box{origin: f.Origin, may: f.May, turn: f.Turn, gone: f.Gone, r: w.Realms[k], program: w.Programs[k], queue: w.Queues[k]}
		if f.Parent >= 0 {
			b.in = m.boxes[f.Parent]
		}
		m.boxes = append(m.boxes, b)
	}
	for _, p := range w.Ports {
		m.ends = append(m.ends, &end{of: m.boxes[p.Owner], turn: p.Turn, came: p.Came, shut: p.Shut})
	}
	for k, p := range w.Ports {
		m.ends[k].other = m.ends[p.Mate]
	}
	return m
}

// world is what the model stands for.
func (m *model) world() api.World {
	var w api.World
	for _, b := range m.boxes {
		w.Frames = append(w.Frames, api.Frame{Parent: slices.Index(m.boxes, b.in), Origin: b.origin, May: b.may, Turn: b.turn, Gone: b.gone})
		w.Realms = append(w.Realms, b.r)
		w.Programs = append(w.Programs, b.program)
		w.Queues = append(w.Queues, b.queue)
	}
	for _, x := range m.ends {
		w.Ports = append(w.Ports, api.Port{Owner: slices.Index(m.boxes, x.of), Turn: x.turn, Mate: slices.Index(m.ends, x.other), Came: x.came, Shut: x.shut})
	}
	return w
}

// find is the box of a number, and what keeps it from being there.
func (m *model) find(k int) (*box, api.Errno) {
	switch {
	case k < 0 || k >= len(m.boxes):
		return nil, api.ErrWho
	case m.boxes[k].gone:
		return nil, api.ErrGone
	}
	return m.boxes[k], api.OK
}

// has tells whether c is in b, at any depth, and isn't that.
func (b *box) has(c *box) bool { return c.in != nil && (c.in == b || b.has(c.in)) }

// lets tells whether a box may do something: 1: run programs, 2: send.
func (b *box) lets(what int) bool { return b.may/what%2 == 1 }

// step is what the chapter says of a pick.
func (m *model) step(p api.Pick) api.Errno {
	b, e := m.find(p.Frame)
	switch {
	case e != api.OK:
		return e
	case !b.lets(1):
		return api.ErrSecret
	case len(b.r.Told) > 4760:
		return api.ErrMany
	case !p.Start && len(b.queue) == 0:
		return api.ErrLate
	}
	b.r.In = api.Graph{}
	if !p.Start {
		b.r.In, b.queue = b.queue[0].G, b.queue[1:]
	}
	for _, x := range b.program {
		told, e := m.do(b, x)
		if e != api.OK {
			told = 0 - int(e)
		}
		b.r.Told = append(slices.Clip(b.r.Told), told)
	}
	return api.OK
}

// do is what the chapter says of an act.
func (m *model) do(b *box, x api.Act) (int, api.Errno) {
	switch x.Kind {
	case 9, 13, 21:
		c, e := m.find(x.N)
		if e != api.OK {
			return 0, e
		}
		return m.about(b, c, x)
	case 10, 12, 17:
		c, e := m.find(x.A)
		if e != api.OK {
			return 0, e
		}
		return m.with(b, c, x)
	case 16:
		if len(m.ends) > 10 {
			return 0, api.ErrMany
		}
		one, two := &end{of: b, turn: b.turn}, &end{of: b, turn: b.turn}
		one.other, two.other = two, one
		m.ends = append(m.ends, one, two)
		return len(m.ends) - 2, api.OK
	case 18:
		return 0, m.push(b, x)
	case 19, 20:
		at, e := m.held(b, x.N)
		switch {
		case e != api.OK:
			return 0, e
		case x.Kind == 20:
			at.shut, at.came = true, nil
		case len(at.came) == 0:
			return 0, api.ErrLate
		default:
			b.r.In, at.came = at.came[0], at.came[1:]
		}
		return 0, api.OK
	}
	r, told, e := realm.Do(b.r, x)
	if e == api.OK {
		b.r = r
	}
	return told, e
}

// about is what the chapter says of Ask, Leave and Go, of another one that is there.
func (m *model) about(b, c *box, x api.Act) (int, api.Errno) {
	if x.Kind == 9 {
		length := 0
		for _, d := range m.boxes {
			if d.in == c && !d.gone {
				length++
			}
		}
		return length, api.OK
	}
	if !b.has(c) {
		return 0, api.ErrSecret
	}
	if x.Kind == 21 {
		if x.A < 0 || x.A > 9 {
			return 0, api.ErrRange
		}
		if c.turn == 1000 {
			return 0, api.ErrMany
		}
	}
	for _, d := range m.boxes {
		d.gone = d.gone || c.has(d)
	}
	if x.Kind == 13 {
		c.gone = true
		return 0, api.OK
	}
	r, _ := realm.New(len(c.r.S.Nodes))
	*c = box{in: c.in, origin: x.A, may: c.may, turn: c.turn + 1, r: r}
	return 0, api.OK
}

// with is what the chapter says of Tell, Reach and Pass, with another one that is there.
func (m *model) with(b, c *box, x api.Act) (int, api.Errno) {
	if x.Kind == 12 {
		if b.origin != c.origin {
			return 0, api.ErrSecret
		}
		_, told, e := realm.Do(c.r, act(api.Get, x.B, 0, 0, 0))
		return told, e
	}
	if !b.lets(2) {
		return 0, api.ErrSecret
	}
	if x.Kind == 17 {
		at, e := m.held(b, x.N)
		if e == api.OK {
			at.of, at.turn = c, c.turn
		}
		return 0, e
	}
	g, e := b.marks(x.N)
	if e != api.OK {
		return 0, e
	}
	if len(c.queue) > 15 {
		return 0, api.ErrMany
	}
	c.queue = append(slices.Clip(c.queue), api.Mail{From: slices.Index(m.boxes, b), G: g})
	return 0, api.OK
}

// push is what the chapter says of Push.
func (m *model) push(b *box, x api.Act) api.Errno {
	if !b.lets(2) {
		return api.ErrSecret
	}
	g, e := b.marks(x.A)
	if e != api.OK {
		return e
	}
	at, e := m.held(b, x.N)
	switch {
	case e != api.OK:
		return e
	case at.other.shut:
		return api.ErrGone
	case len(at.other.came) > 15:
		return api.ErrMany
	}
	at.other.came = append(slices.Clip(at.other.came), g)
	return api.OK
}

// held is an end of a number, and what keeps a box from it.
func (m *model) held(b *box, k int) (*end, api.Errno) {
	switch {
	case k < 0 || k >= len(m.ends):
		return nil, api.ErrWho
	case m.ends[k].of != b || m.ends[k].turn != b.turn:
		return nil, api.ErrSecret
	case m.ends[k].shut:
		return nil, api.ErrGone
	}
	return m.ends[k], api.OK
}

// marks are those of the first n hands of a box.
func (b *box) marks(n int) (api.Graph, api.Errno) {
	if n < 0 || n > 8 {
		return api.Graph{}, api.ErrRange
	}
	var list []int
	for hand := 0; hand < n; hand++ {
		_, mark, e := realm.Do(b.r, act(api.Get, hand, 0, 0, 0))
		if e != api.OK {
			return api.Graph{}, e
		}
		list = append(list, mark)
	}
	return marked(list...), api.OK
}

// dice is a row of numbers, the same one for the same seed.
type dice uint64

// next is another number from 0 to below, at each step.
func (d *dice) next(below int) int {
	*d = *d*6364136223846793005 + 1442695040888963407
	return int(*d>>33) % below
}

// one is one of these.
func (d *dice) one(list ...int) int { return list[d.next(len(list))] }

// mostly is a number from 0 to below, or, once in a while, one of what is wrong.
func (d *dice) mostly(below int, wrong ...int) int {
	if d.next(25) == 0 {
		return d.one(wrong...)
	}
	return d.next(below)
}

// frame is one of so many frames, mostly.
func (d *dice) frame(frames int) int { return d.mostly(frames, -1, frames, math.MinInt, math.MaxInt) }

// hand is one of the first six, mostly.
func (d *dice) hand() int { return d.mostly(6, -1, 15, 16, math.MinInt, math.MaxInt) }

// world is a right world of up to eight frames, to which some mail came; in some of them two have a pair of ports, through which much came.
func (d *dice) world() api.World {
	var w api.World
	for k := range d.one(2, 2, 3, 3, 4, 5, 6, 7, 8) {
		f := api.Frame{Parent: -1, Origin: 1 + d.next(3), May: d.one(7, 7, 7, 7, 7, 5, 3, 6), Turn: d.one(0, 0, 0, 1, 999, 1000)}
		if k > 0 {
			f.Parent = d.next(k)
			f.May &= w.Frames[f.Parent].May
		} else {
			f.May = 7
		}
		w.Frames = append(w.Frames, f)
		w.Realms = append(w.Realms, room(6+d.next(3), 100*k, 100*k+1, 100*k+2, 100*k+3))
	}
	w.Programs = make([][]api.Act, len(w.Frames))
	w.Queues = make([][]api.Mail, len(w.Frames))
	for range d.next(6) {
		to := d.next(len(w.Frames))
		w.Queues[to] = append(w.Queues[to], api.Mail{From: d.next(len(w.Frames)), G: marked(to)})
	}
	for k := range 2 * d.next(2) {
		owner := d.next(len(w.Frames))
		came := slices.Repeat([]api.Graph{marked(7)}, d.one(0, 1, 14))
		w.Ports = append(w.Ports, api.Port{Owner: owner, Turn: w.Frames[owner].Turn, Mate: 1 - k, Came: came})
	}
	return w
}

// port is one of so many ports, mostly.
func (d *dice) port(ports int) int { return d.mostly(ports, -1, 12, math.MinInt, math.MaxInt) }

// count is how many hands' marks are sent: mostly few.
func (d *dice) count() int { return d.mostly(5, -1, 8, 9, math.MinInt, math.MaxInt) }

// kind is one of an act, mostly one that is no end to much.
func (d *dice) kind() int {
	switch d.next(40) {
	case 0:
		return d.one(-1, 0, 22, 99, math.MinInt)
	case 1:
		return d.one(api.Leave, api.Go, api.Go)
	case 2:
		return api.Shut
	}
	return d.one(
		api.Make, api.Make, api.Free, api.Insert, api.Remove, api.Set, api.Set, api.Get, api.Host, api.Up, api.Take, api.Take, api.Count, api.Flat,
		api.Ask, api.Tell, api.Tell, api.Tell, api.Reach, api.Reach, api.Open, api.Pass, api.Push, api.Push, api.Push, api.Pull, api.Pull, api.Pull,
	)
}

// act is one in a world of so many frames, by which one of so many ports is used, mostly.
func (d *dice) act(frames, ports int) api.Act {
	x := act(d.kind(), d.hand(), d.hand(), d.one(-1, -1, 0, 1, 2, 16), d.next(8))
	switch x.Kind {
	case api.Free:
		// The first hands hold something for long, so that there is something to send.
		x.A = d.one(2, 3, 4, 5, 4, 5)
	case api.Ask, api.Leave:
		x.N = d.frame(frames)
	case api.Go:
		x.N, x.A = d.frame(frames), d.mostly(4, -1, 10)
	case api.Tell:
		x.A, x.N = d.frame(frames), d.count()
	case api.Reach:
		x.A = d.frame(frames)
	case api.Pass:
		x.A, x.N = d.frame(frames), d.port(ports)
	case api.Push:
		x.A, x.N = d.count(), d.port(ports)
	case api.Pull, api.Shut:
		x.N = d.port(ports)
	}
	return x
}

// program is some acts, likewise.
func (d *dice) program(frames, ports int) []api.Act {
	var program []api.Act
	for range d.next(16) {
		program = append(program, d.act(frames, ports))
	}
	return program
}

// tally is how often each kind of act had each error.
type tally map[[2]int]int

// count puts what a frame was told at the acts of its program to it.
func (c tally) count(program []api.Act, told []int) {
	for k, x := range program {
		c[[2]int{x.Kind, max(0, -told[len(told)-len(program)+k])}]++
	}
}

// want: each kind had all these errors, some times.
func (c tally) want(t *testing.T, times int, errors map[int][]api.Errno) {
	t.Helper()
	for kind, list := range errors {
		for _, e := range list {
			if got := c[[2]int{kind, int(e)}]; got < times {
				t.Errorf("kind %d, errno %d: %d times: too few", kind, e, got)
			}
		}
	}
}

// TestAgainstModel: long runs of drawn programs do what the chapter says, and worlds stay right.
func TestAgainstModel(t *testing.T) {
	acts, picks := tally{}, map[api.Errno]int{}
	for seed := range 600 {
		d := dice(seed)
		w := d.world()
		m := modelOf(w)
		begins, ports := 2+d.next(9), d.one(3, 12) // how many of ten begin by themselves; which ports are used
		for n := range 60 {
			p := api.Pick{Frame: d.frame(len(w.Frames)), Start: d.next(10) < begins}
			if p.Frame >= 0 && p.Frame < len(w.Frames) {
				w.Programs[p.Frame] = d.program(len(w.Frames), ports)
				m.boxes[p.Frame].program = w.Programs[p.Frame]
			}
			next, e := loop.Step(w, p)
			want := m.step(p)
			picks[want]++
			if e != want || e != api.OK && !isZero(next) {
				t.Fatalf("seed %d, step %d: errno %d, want %d", seed, n, e, want)
			}
			if e != api.OK {
				next = w
			}
			if !loop.Same(next, m.world()) || loop.Check(next) != api.OK {
				t.Fatalf("seed %d, step %d, of %+v:\n%+v, want\n%+v", seed, n, w.Programs[p.Frame], next, m.world())
			}
			if w = next; e == api.OK {
				acts.count(w.Programs[p.Frame], w.Realms[p.Frame].Told)
			}
		}
	}
	acts.want(t, 5, map[int][]api.Errno{
		api.Ask:   {api.OK, api.ErrWho, api.ErrGone},
		api.Tell:  {api.OK, api.ErrWho, api.ErrGone, api.ErrSecret, api.ErrRange, api.ErrMany},
		api.Reach: {api.OK, api.ErrWho, api.ErrGone, api.ErrSecret},
		api.Leave: {api.OK, api.ErrWho, api.ErrGone, api.ErrSecret},
		api.Go:    {api.OK, api.ErrWho, api.ErrGone, api.ErrSecret, api.ErrRange, api.ErrMany},
		api.Open:  {api.OK, api.ErrMany},
		api.Pass:  {api.OK, api.ErrWho, api.ErrGone, api.ErrSecret},
		api.Push:  {api.OK, api.ErrWho, api.ErrGone, api.ErrSecret, api.ErrRange, api.ErrMany},
		api.Pull:  {api.OK, api.ErrWho, api.ErrGone, api.ErrSecret, api.ErrLate},
		api.Shut:  {api.OK, api.ErrWho, api.ErrGone, api.ErrSecret},
		api.Take:  {api.OK, api.ErrWho},
		0:         {api.ErrForm, api.ErrWho},
	})
	for _, e := range []api.Errno{api.OK, api.ErrWho, api.ErrGone, api.ErrSecret, api.ErrLate} {
		if picks[e] < 20 {
			t.Errorf("picks of errno %d: %d: too few", e, picks[e])
		}
	}
}

// TestRunAgainstModel: whole scripts, of programs that stay, but where one goes elsewhere.
func TestRunAgainstModel(t *testing.T) {
	for seed := range 200 {
		d := dice(1000 + seed)
		w := d.world()
		for k := range w.Programs {
			w.Programs[k] = d.program(len(w.Frames), 6)
		}
		m := modelOf(w)
		var script []api.Pick
		var want []api.Errno
		for range api.MaxScript {
			p := api.Pick{Frame: d.frame(len(w.Frames)), Start: d.next(3) == 0}
			script = append(script, p)
			want = append(want, m.step(p))
		}
		got, said, e := loop.Run(w, script)
		if e != api.OK || !slices.Equal(said, want) || !loop.Same(got, m.world()) {
			t.Fatalf("seed %d: said %v, errno %d, want %v\n%+v, want\n%+v", seed, said, e, want, got, m.world())
		}
	}
}
