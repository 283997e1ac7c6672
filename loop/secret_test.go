package loop_test

import (
	"slices"
	"testing"

	"glasshouse/api"
	"glasshouse/loop"
)

// secret is the origin whose frames have, and do, what others may not learn of.
const secret = 1

// seen is what others can learn of a world: of frames of the secret origin no more than how much room each has, and how much came to it; of ports that are theirs, or nobody's any more, how much came.
func seen(w api.World) api.World {
	v := copyOf(w)
	for k, f := range w.Frames {
		if f.Origin == secret {
			v.Realms[k] = api.Realm{S: api.Store{Nodes: make([]api.Node, len(w.Realms[k].S.Nodes))}}
			v.Programs[k] = nil
			v.Queues[k] = make([]api.Mail, len(w.Queues[k]))
		}
	}
	for k, p := range w.Ports {
		if f := w.Frames[p.Owner]; f.Origin == secret || f.Turn != p.Turn {
			v.Ports[k].Came = make([]api.Graph, len(p.Came))
		}
	}
	return v
}

// sent is the premise of the promise: what is sent to others, how much is in the secret ones' queues and ports, and how frames and ports stand.
func sent(w api.World) api.World {
	v := seen(w)
	v.Realms, v.Programs = nil, nil
	return v
}

// hide lets frames of the secret origin have something else, with as many places.
func (d *dice) hide(w *api.World) {
	for k, f := range w.Frames {
		if f.Origin != secret {
			continue
		}
		r := room(len(w.Realms[k].S.Nodes), d.next(90), d.next(90), d.next(90), d.next(90))
		r.Told, r.In = make([]int, d.next(9)), marked(d.next(90), d.next(90))
		w.Realms[k] = r
		w.Programs[k] = d.program(len(w.Frames), 6)
		for m := range w.Queues[k] {
			w.Queues[k][m] = api.Mail{From: d.next(len(w.Frames)), G: marked(d.next(90))}
		}
	}
	for k, p := range w.Ports {
		if w.Frames[p.Owner].Origin == secret {
			w.Ports[k].Came = slices.Repeat([]api.Graph{marked(d.next(90), d.next(90))}, len(p.Came))
		}
	}
}

// privateAct is one that nobody else learns of. It leaves the first hands on what they hold, so that as much can be sent.
func (d *dice) privateAct(frames int) api.Act {
	switch d.next(4) {
	case 0:
		return act(d.one(api.Set, api.Set, api.Take), d.next(8), 0, 0, d.next(90))
	case 1:
		return act(d.one(api.Get, api.Count, api.Flat), d.next(8), d.next(3), 0, d.next(3))
	case 2:
		return act(api.Reach, d.next(frames), d.next(5), 0, 0)
	}
	return act(d.one(api.Make, api.Free, api.Insert, api.Remove, api.Host, api.Up), 4+d.next(4), 4+d.next(4), -1, d.next(9))
}

// twins is two programs of a frame of the secret origin, that do unlike things, and mostly send the same.
func (d *dice) twins(frames int) (a, b []api.Act) {
	for range d.next(5) {
		for range d.next(4) {
			a = append(a, d.privateAct(frames))
		}
		for range d.next(4) {
			b = append(b, d.privateAct(frames))
		}
		count := d.one(0, 0, 1, 2, 3)
		x := act(api.Tell, d.next(frames), 0, 0, count)
		switch d.next(8) {
		case 0:
			x = act(d.one(api.Leave, api.Go), d.next(4), 0, 0, d.next(frames))
		case 1, 2:
			x = act(api.Open, 0, 0, 0, 0)
		case 3:
			x = act(api.Pass, d.next(frames), 0, 0, d.next(6))
		case 4, 5:
			x = act(api.Push, count, 0, 0, d.next(6))
		case 6:
			x = act(d.one(api.Pull, api.Pull, api.Shut), 0, 0, 0, d.next(6))
		}
		// What is sent is mostly the same; if it isn't, it may still be that none but the secret ones get it.
		for k := range count * min(1, d.next(4)) {
			same := act(api.Set, k, 0, 0, d.next(90))
			a, b = append(a, same), append(b, same)
		}
		a, b = append(a, x), append(b, x)
	}
	return a, b
}

// pair is two worlds that others can't tell apart.
type pair struct {
	dice
	a, b   api.World
	counts map[string]int
}

// pick lets one do something in both worlds, and tells whether the premise holds.
func (p *pair) pick(t *testing.T) bool {
	t.Helper()
	frames := len(p.a.Frames)
	pick := api.Pick{Frame: p.next(frames), Start: p.next(3) > 0}
	own := p.a.Frames[pick.Frame].Origin == secret
	if own {
		p.a.Programs[pick.Frame], p.b.Programs[pick.Frame] = p.twins(frames)
	} else {
		program := p.program(frames, 6)
		p.a.Programs[pick.Frame], p.b.Programs[pick.Frame] = program, slices.Clone(program)
	}
	a, e := loop.Step(p.a, pick)
	b, f := loop.Step(p.b, pick)
	if !own && e != f {
		t.Fatalf("frame %d: errno %d and %d", pick.Frame, e, f)
	}
	if e == api.OK {
		p.a = a
	}
	if f == api.OK {
		p.b = b
	}
	if own && !loop.Same(sent(p.a), sent(p.b)) {
		p.counts["not the same sent"]++
		return false
	}
	if !loop.Same(seen(p.a), seen(p.b)) {
		t.Fatalf("frame %d, of %+v and %+v:\n%+v and\n%+v", pick.Frame, p.a.Programs[pick.Frame], p.b.Programs[pick.Frame], seen(p.a), seen(p.b))
	}
	p.tell(own, e)
	return true
}

// tell counts what kind of step it was, and how unlike the worlds are.
func (p *pair) tell(own bool, e api.Errno) {
	switch {
	case e != api.OK:
		p.counts["refused"]++
	case own:
		p.counts["by the secret ones"]++
	case loop.Same(p.a, p.b):
		p.counts["by others, in like worlds"]++
	default:
		p.counts["by others, in unlike worlds"]++
	}
}

// TestOthersLearnNothing: whatever frames of one origin have, and do: as long as what they send to others is the same, as much is in their own queues and ports, and frames and ports stand alike, all others are as they would be.
func TestOthersLearnNothing(t *testing.T) {
	counts := map[string]int{}
	for seed := range 1200 {
		p := &pair{dice: dice(seed), counts: counts}
		p.a = p.world()
		p.a.Frames[p.next(len(p.a.Frames))].Origin = secret
		p.b = copyOf(p.a)
		p.hide(&p.b)
		if loop.Check(p.b) != api.OK || !loop.Same(seen(p.a), seen(p.b)) {
			t.Fatalf("seed %d: wrong from the start: %+v", seed, p.b)
		}
		for range 30 {
			if !p.pick(t) {
				break
			}
		}
	}
	for what, times := range map[string]int{"by the secret ones": 3000, "by others, in unlike worlds": 3000, "not the same sent": 30} {
		if counts[what] < times {
			t.Errorf("%s: %d times: too few, of %v", what, counts[what], counts)
		}
	}
}

// TestSameLearnt: a whole script, told twice: what the secret ones do between isn't seen, but by what they send.
func TestSameLearnt(t *testing.T) {
	script := []api.Pick{{Frame: inner}, {Frame: left}, {Frame: mute, Start: true}, {Frame: inner, Start: true}, {Frame: left}, {Frame: top, Start: true}, {Frame: left, Start: true}}
	quiet := with(func(w *api.World) {
		w.Programs[inner] = []api.Act{act(api.Set, 0, 0, 0, 1), act(api.Tell, left, 0, 0, 1)}
		w.Programs[top] = []api.Act{act(api.Go, 2, 0, 0, inner)}
	})
	busy := with(func(w *api.World) {
		w.Realms[inner] = room(5, 500, 600, 700)
		w.Queues[inner][0].G = marked(800)
		w.Programs[inner] = []api.Act{
			act(api.Make, 9, 0, 0, 5), act(api.Take, 9, 0, 0, 1), act(api.Insert, 1, 9, -1, 0), act(api.Reach, top, 0, 0, 0),
			act(api.Set, 0, 0, 0, 1), act(api.Tell, left, 0, 0, 1), act(api.Set, 0, 0, 0, 900),
		}
		w.Realms[top].S.Nodes[3].Mark = 44
		w.Programs[top] = []api.Act{act(api.Get, 3, 0, 0, 0), act(api.Go, 2, 0, 0, inner), act(api.Free, 3, 0, 0, 0)}
	})
	loud := with(func(w *api.World) {
		w.Programs[inner] = []api.Act{act(api.Set, 0, 0, 0, 2), act(api.Tell, left, 0, 0, 1)}
		w.Programs[top] = quiet.Programs[top]
	})
	var views []api.World
	for _, w := range []api.World{quiet, busy, loud} {
		got, said, e := loop.Run(w, script)
		if e != api.OK || slices.Max(said) != api.OK {
			t.Fatalf("said %v, errno %d", said, e)
		}
		views = append(views, seen(got))
	}
	if !loop.Same(views[0], views[1]) {
		t.Errorf("others learn of it:\n%+v and\n%+v", views[0], views[1])
	}
	if loop.Same(views[0], views[2]) {
		t.Error("others don't learn of what they are sent")
	}
}
