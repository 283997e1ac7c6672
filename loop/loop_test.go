package loop_test

import (
	"math"
	"reflect"
	"slices"
	"testing"

	"glasshouse/api"
	"glasshouse/loop"
	"glasshouse/port"
	"glasshouse/realm"
)

// act is one of this kind.
func act(kind, a, b, c, n int) api.Act { return api.Act{Kind: kind, A: a, B: b, C: c, N: n} }

// cell is one of a number and Kids.
func cell(n int, kids ...int) api.Cell { return api.Cell{N: n, Kids: kids} }

// of is a graph of these cells.
func of(cells ...api.Cell) api.Graph { return api.Graph{Cells: cells} }

// room is a realm of so many places, in which the first hands hold nodes of these marks; the node of the next hand is gone, and the others never held anything.
func room(places int, marks ...int) api.Realm {
	r, _ := realm.New(places)
	for k, mark := range marks {
		r.S.Nodes[k] = api.Node{Used: true, Uses: 1, Mark: mark, Parent: -1, Host: -1}
		r.Hands[k] = api.Hand{Place: k, Use: 1}
	}
	gone := len(marks)
	r.S.Nodes[gone].Uses = 1
	r.Hands[gone] = api.Hand{Place: gone, Use: 1}
	return r
}

// These are frames of the house.
const (
	top   = 0 // of the origin 1; nine of its hands hold nodes
	left  = 1 // in top, of the origin 2, at its turn 3
	inner = 2 // in left, of top's origin
	mute  = 3 // in left, of left's origin; may no more than run programs
	away  = 4 // in top, of its origin, and gone
	still = 5 // in top, of the origin 9, at its last turn; may all but run programs
)

// These are hands of all frames of the house but top.
const (
	spent = 2
	blank = 3
)

// house is a right world of six frames. Its ports: 0 and 1, of top and left; 2 and 3, of left and mute, with more at 2; 4, of left, ahead of its turn, and 5, of inner, shut; 6 and 7, of away and top.
func house() api.World {
	w := api.World{
		Frames: []api.Frame{
			{Parent: -1, Origin: 1, May: api.All},
			{Parent: top, Origin: 2, May: api.All, Turn: 3},
			{Parent: left, Origin: 1, May: api.All},
			{Parent: left, Origin: 2, May: api.Script},
			{Parent: top, Origin: 1, May: api.All, Gone: true},
			{Parent: top, Origin: 9, May: api.Post | api.Nest, Turn: api.MaxTurns},
		},
		Realms: []api.Realm{room(12, 1, 2, 3, 4, 5, 6, 7, 8, 9), room(4, 11, -12), room(5, 21, -22), room(6, 31, -32), room(7, 41, -42), room(8, 51, -52)},
		Programs: [][]api.Act{
			{act(api.Get, 1, 0, 0, 0)}, {act(api.Take, 0, 0, 0, 1), act(api.Get, 0, 0, 0, 0)}, nil, {act(api.Ask, 0, 0, 0, 3)}, {act(api.Make, 1, 0, 0, 0)}, {act(api.Make, 2, 0, 0, 0)},
		},
		Queues: [][]api.Mail{
			nil,
			{{From: top, G: of(cell(1, 1), cell(60))}, {From: away, G: of(cell(2, 2, 2), cell(61, 1), cell(62))}, {From: left}},
			{{From: mute, G: of(cell(0))}},
			nil, {{From: top, G: of(cell(3))}}, nil,
		},
		Ports: []api.Port{
			{Owner: top, Turn: 0, Mate: 1, Came: []api.Graph{of(cell(70, 1), cell(71))}},
			{Owner: left, Turn: 3, Mate: 0},
			{Owner: left, Turn: 3, Mate: 3, Came: []api.Graph{of(cell(72), cell(73, 0)), {}, of(cell(74))}},
			{Owner: mute, Turn: 0, Mate: 2},
			{Owner: left, Turn: 2, Mate: 5},
			{Owner: inner, Turn: 0, Mate: 4, Shut: true},
			{Owner: away, Turn: 0, Mate: 7},
			{Owner: top, Turn: 0, Mate: 6},
		},
	}
	w.Realms[left].In = of(cell(80, 0))
	w.Realms[left].Told = []int{5, -6}
	return w
}

// with is the house, but for what is done to it.
func with(do ...func(w *api.World)) api.World {
	w := house()
	for _, one := range do {
		one(&w)
	}
	return w
}

// isZero tells whether there is nothing in a world.
func isZero(w api.World) bool { return reflect.DeepEqual(w, api.World{}) }

// noFrames is some of what is no frame of the house.
var noFrames = []int{math.MinInt, -2, -1, 6, 7, api.MaxFrames, math.MaxInt}

// wrongGraph is one that has a number out of range, and leads to no cell behind that.
func wrongGraph() api.Graph { return of(cell(api.MaxValue+1), cell(0, 9)) }

// fault does something wrong to a world.
type fault struct {
	what string
	do   func(w *api.World)
	want api.Errno
}

// faults is one thing wrong each, in the order in which they are told.
func faults() []fault {
	return []fault{
		{"too many frames", func(w *api.World) { w.Frames = make([]api.Frame, 9) }, api.ErrMany},
		{"no first frame", func(w *api.World) { w.Frames[0].Parent = 0 }, api.ErrWho},
		{"an origin out of range", func(w *api.World) { w.Frames[4].Origin = 10 }, api.ErrRange},
		{"a frame that may more", func(w *api.World) { w.Frames[still].Parent = mute }, api.ErrForm},
		{"a realm fewer", func(w *api.World) { w.Realms = w.Realms[:5] }, api.ErrForm},
		{"a realm's mark out of range", func(w *api.World) { w.Realms[0].S.Nodes[0].Mark = api.MaxValue + 1 }, api.ErrRange},
		{"a realm's hand fewer", func(w *api.World) { w.Realms[1].Hands = w.Realms[1].Hands[1:] }, api.ErrForm},
		{"a realm's message", func(w *api.World) { w.Realms[4].In = of(cell(0, 1)) }, api.ErrWho},
		{"told too much", func(w *api.World) { w.Realms[5].Told = make([]int, 4801) }, api.ErrMany},
		{"a program too long", func(w *api.World) { w.Programs[0] = make([]api.Act, 41) }, api.ErrMany},
		{"a mail from no frame", func(w *api.World) { w.Queues[1][0] = api.Mail{From: 6, G: wrongGraph()} }, api.ErrWho},
		{"a mail's number", func(w *api.World) { w.Queues[1][1].G = wrongGraph() }, api.ErrRange},
		{"a mail's cell", func(w *api.World) { w.Queues[1][2].G = of(cell(0, 1)) }, api.ErrWho},
		{"a queue too long", func(w *api.World) { w.Queues[2] = make([]api.Mail, 17) }, api.ErrMany},
		{"a later mail's number", func(w *api.World) { w.Queues[4][0].G = wrongGraph() }, api.ErrRange},
		{"a port of no frame", func(w *api.World) { w.Ports[0].Owner = 6 }, api.ErrWho},
		{"a port that is its own mate", func(w *api.World) { w.Ports[2].Mate = 2 }, api.ErrForm},
		{"a port's graph", func(w *api.World) { w.Ports[7].Came = []api.Graph{wrongGraph()} }, api.ErrRange},
	}
}

// wrong is a world that Check refuses.
type wrong struct {
	what string
	w    api.World
	want api.Errno
}

// wrongWorlds is worlds with one thing wrong, or with two, of which the one that is told first is wanted, and edges.
func wrongWorlds() []wrong {
	var all []wrong
	for k, a := range faults() {
		all = append(all, wrong{a.what, with(a.do), a.want})
		for _, b := range faults()[k+1:] {
			all = append(all, wrong{a.what + ", " + b.what, with(b.do, a.do), a.want})
		}
	}
	add := func(what string, want api.Errno, do func(w *api.World)) {
		all = append(all, wrong{what, with(do), want})
	}
	add("frames alone", api.ErrForm, func(w *api.World) { *w = api.World{Frames: w.Frames} })
	add("no frames", api.ErrForm, func(w *api.World) { w.Frames = nil })
	add("no realms", api.ErrForm, func(w *api.World) { w.Realms = nil })
	add("no programs", api.ErrForm, func(w *api.World) { w.Programs = nil })
	add("no queues", api.ErrForm, func(w *api.World) { w.Queues = nil })
	add("a realm more", api.ErrForm, func(w *api.World) { w.Realms = append(w.Realms, w.Realms[0]) })
	add("a program fewer", api.ErrForm, func(w *api.World) { w.Programs = w.Programs[:5] })
	add("a program more", api.ErrForm, func(w *api.World) { w.Programs = append(w.Programs, nil) })
	add("a queue fewer", api.ErrForm, func(w *api.World) { w.Queues = w.Queues[:5] })
	add("a queue more", api.ErrForm, func(w *api.World) { w.Queues = append(w.Queues, nil) })
	add("far too many", api.ErrForm, func(w *api.World) { w.Programs = make([][]api.Act, 100000) })
	add("a frame fewer of each but realms", api.ErrForm, func(w *api.World) {
		w.Frames, w.Programs, w.Queues = w.Frames[:5], w.Programs[:5], w.Queues[:5]
	})
	add("the realm of what is gone", api.ErrForm, func(w *api.World) { w.Realms[away] = api.Realm{} })
	add("the program of what is gone", api.ErrMany, func(w *api.World) { w.Programs[away] = make([]api.Act, 41) })
	add("the queue of what is gone", api.ErrMany, func(w *api.World) { w.Queues[away] = make([]api.Mail, 17) })
	add("too many mails, of which one is wrong", api.ErrMany, func(w *api.World) { w.Queues[5] = slices.Repeat([]api.Mail{{From: -1}}, 17) })
	add("a mail from below", api.ErrWho, func(w *api.World) { w.Queues[1][0].From = -1 })
	add("too many ports", api.ErrMany, func(w *api.World) { w.Ports = make([]api.Port, 13) })
	add("ports of fewer frames", api.ErrWho, func(w *api.World) {
		*w = api.World{Ports: []api.Port{{Mate: 1}, {Mate: 0}}}
	})
	return all
}

func TestCheckRight(t *testing.T) {
	for what, w := range map[string]api.World{
		"the house":                   house(),
		"nothing":                     {},
		"as much in a queue as may":   with(func(w *api.World) { w.Queues[4] = make([]api.Mail, 16) }),
		"a program of as much as may": with(func(w *api.World) { w.Programs[4] = make([]api.Act, 40) }),
		"told as much as may be":      with(func(w *api.World) { w.Realms[0].Told = make([]int, 4800) }),
		"wild acts": with(func(w *api.World) {
			w.Programs[0] = []api.Act{act(math.MinInt, math.MaxInt, math.MinInt, math.MaxInt, math.MinInt), act(0, 0, 0, 0, 0)}
		}),
		"mail from all, and from what is gone": with(func(w *api.World) {
			w.Queues[5] = []api.Mail{{From: 0}, {From: 1}, {From: 2}, {From: 3}, {From: 4}, {From: 5}}
		}),
		"no ports": with(func(w *api.World) { w.Ports = nil }),
	} {
		if e := loop.Check(w); e != api.OK {
			t.Errorf("%s: errno %d", what, e)
		}
	}
}

// TestCheckWrong: each error, which of them is told first, and that the others say it ahead of all else.
func TestCheckWrong(t *testing.T) {
	for _, c := range wrongWorlds() {
		if e := loop.Check(c.w); e != c.want {
			t.Errorf("%s: errno %d, want %d", c.what, e, c.want)
		}
		for _, k := range append([]int{top, left, away, still}, noFrames...) {
			for _, start := range []bool{true, false} {
				wantRefused(t, c.what, c.w, api.Pick{Frame: k, Start: start}, c.want)
			}
		}
		for _, picks := range []int{0, 1, api.MaxScript, api.MaxScript + 1} {
			if got, said, e := loop.Run(c.w, make([]api.Pick, picks)); e != c.want || said != nil || !isZero(got) {
				t.Errorf("%s: Run: %+v, %v, errno %d, want errno %d", c.what, got, said, e, c.want)
			}
		}
	}
}

// changes does one thing each to a world, so that it isn't like the house any more.
func changes() map[string]func(w *api.World) {
	return map[string]func(w *api.World){
		"parent":        func(w *api.World) { w.Frames[2].Parent = 0 },
		"origin":        func(w *api.World) { w.Frames[2].Origin = 0 },
		"may":           func(w *api.World) { w.Frames[2].May = 0 },
		"turn":          func(w *api.World) { w.Frames[2].Turn = 1 },
		"gone":          func(w *api.World) { w.Frames[2].Gone = true },
		"frame fewer":   func(w *api.World) { w.Frames = w.Frames[:5] },
		"mark":          func(w *api.World) { w.Realms[5].S.Nodes[0].Mark = 0 },
		"hand":          func(w *api.World) { w.Realms[5].Hands[15].Use = 1 },
		"message":       func(w *api.World) { w.Realms[1].In.Cells[0].N = 0 },
		"told":          func(w *api.World) { w.Realms[1].Told[1] = 6 },
		"realm fewer":   func(w *api.World) { w.Realms = w.Realms[:5] },
		"kind":          func(w *api.World) { w.Programs[1][1].Kind = 1 },
		"A":             func(w *api.World) { w.Programs[1][1].A = 1 },
		"B":             func(w *api.World) { w.Programs[1][1].B = 1 },
		"C":             func(w *api.World) { w.Programs[1][1].C = 1 },
		"N":             func(w *api.World) { w.Programs[1][1].N = 1 },
		"act fewer":     func(w *api.World) { w.Programs[1] = w.Programs[1][:1] },
		"act more":      func(w *api.World) { w.Programs[2] = make([]api.Act, 1) },
		"program fewer": func(w *api.World) { w.Programs = w.Programs[:5] },
		"from":          func(w *api.World) { w.Queues[1][1].From = 3 },
		"number":        func(w *api.World) { w.Queues[1][1].G.Cells[2].N = 0 },
		"kid":           func(w *api.World) { w.Queues[1][1].G.Cells[0].Kids[1] = 1 },
		"order": func(w *api.World) {
			w.Queues[1][0], w.Queues[1][1] = w.Queues[1][1], w.Queues[1][0]
		},
		"mail fewer":    func(w *api.World) { w.Queues[1] = w.Queues[1][:2] },
		"mail more":     func(w *api.World) { w.Queues[3] = make([]api.Mail, 1) },
		"queue fewer":   func(w *api.World) { w.Queues = w.Queues[:5] },
		"owner":         func(w *api.World) { w.Ports[1].Owner = 0 },
		"port's turn":   func(w *api.World) { w.Ports[1].Turn = 0 },
		"mate":          func(w *api.World) { w.Ports[1].Mate = 2 },
		"came":          func(w *api.World) { w.Ports[0].Came[0].Cells[1].N = 0 },
		"came more":     func(w *api.World) { w.Ports[1].Came = make([]api.Graph, 1) },
		"shut":          func(w *api.World) { w.Ports[1].Shut = true },
		"port fewer":    func(w *api.World) { w.Ports = w.Ports[:7] },
		"no frames":     func(w *api.World) { w.Frames = nil },
		"no realms":     func(w *api.World) { w.Realms = nil },
		"no programs":   func(w *api.World) { w.Programs = nil },
		"no queues":     func(w *api.World) { w.Queues = nil },
		"no ports":      func(w *api.World) { w.Ports = nil },
		"nothing":       func(w *api.World) { *w = api.World{} },
		"other's realm": func(w *api.World) { w.Realms[1], w.Realms[2] = w.Realms[2], w.Realms[1] },
	}
}

func TestSame(t *testing.T) {
	if !loop.Same(house(), house()) {
		t.Error("a world isn't the same as its like")
	}
	for what, do := range changes() {
		if loop.Same(house(), with(do)) || loop.Same(with(do), house()) {
			t.Errorf("the same, with another: %s", what)
		}
	}
	none := api.World{Frames: []api.Frame{}, Realms: []api.Realm{}, Programs: [][]api.Act{}, Queues: [][]api.Mail{}, Ports: []api.Port{}}
	if !loop.Same(api.World{}, none) || !loop.Same(none, api.World{}) {
		t.Error("nothing isn't the same as nothing")
	}
	empty := with(func(w *api.World) {
		w.Programs[2], w.Queues[0], w.Ports[1].Came, w.Realms[0].Told = []api.Act{}, []api.Mail{}, []api.Graph{}, []int{}
		w.Queues[1][2].G.Cells = []api.Cell{}
	})
	if !loop.Same(house(), empty) || !loop.Same(empty, house()) {
		t.Error("lists of nothing aren't the same")
	}
}

// TestSameTakesAny: wrong worlds, too.
func TestSameTakesAny(t *testing.T) {
	for _, c := range wrongWorlds() {
		if !loop.Same(c.w, c.w) || loop.Same(c.w, house()) || loop.Same(house(), c.w) {
			t.Errorf("%s: not the same as itself, or the same as the house", c.what)
		}
	}
}

// wantRefused: that error, and nothing beside it.
func wantRefused(t *testing.T, what string, w api.World, p api.Pick, want api.Errno) {
	t.Helper()
	if got, e := loop.Step(w, p); e != want || !isZero(got) {
		t.Errorf("%s: %+v: %+v, errno %d, want errno %d", what, p, got, e, want)
	}
}

// wantStep: this world, and nothing is wrong.
func wantStep(t *testing.T, what string, w api.World, p api.Pick, want api.World) {
	t.Helper()
	got, e := loop.Step(w, p)
	if e != api.OK || !loop.Same(got, want) {
		t.Errorf("%s: %+v: errno %d\n%+v, want\n%+v", what, p, e, got, want)
	}
	if e := loop.Check(got); e != api.OK {
		t.Errorf("%s: %+v: what is answered is wrong: errno %d", what, p, e)
	}
}

// TestStepRefused: each error, and which of them is told first.
func TestStepRefused(t *testing.T) {
	toldMuch := func(told int, frames ...int) func(w *api.World) {
		return func(w *api.World) {
			for _, k := range frames {
				w.Realms[k].Told = make([]int, told)
			}
		}
	}
	for _, start := range []bool{true, false} {
		for _, k := range noFrames {
			wantRefused(t, "no frame", house(), api.Pick{Frame: k, Start: start}, api.ErrWho)
		}
		wantRefused(t, "in a world of nothing", api.World{}, api.Pick{Start: start}, api.ErrWho)
		wantRefused(t, "gone", house(), api.Pick{Frame: away, Start: start}, api.ErrGone)
		mayNot := func(w *api.World) { w.Frames[away].May = api.Post }
		wantRefused(t, "gone, and may not", with(mayNot, toldMuch(4800, away)), api.Pick{Frame: away, Start: start}, api.ErrGone)
		wantRefused(t, "may not", house(), api.Pick{Frame: still, Start: start}, api.ErrSecret)
		wantRefused(t, "may not, and was told much", with(toldMuch(4800, still)), api.Pick{Frame: still, Start: start}, api.ErrSecret)
		for _, told := range []int{4761, 4799, 4800} {
			wantRefused(t, "told much", with(toldMuch(told, top, left)), api.Pick{Frame: left, Start: start}, api.ErrMany)
			wantRefused(t, "told much, and nothing came", with(toldMuch(told, top)), api.Pick{Frame: top, Start: start}, api.ErrMany)
		}
	}
	wantRefused(t, "nothing came", house(), api.Pick{Frame: top}, api.ErrLate)
	wantRefused(t, "nothing came", with(toldMuch(4760, mute)), api.Pick{Frame: mute}, api.ErrLate)
}

// TestStepMay: to run a program, no more is needed than that it may.
func TestStepMay(t *testing.T) {
	for may := range api.All + 1 {
		w := with(func(w *api.World) { w.Frames[inner].May = may })
		if may&api.Script == 0 {
			wantRefused(t, "may not", w, api.Pick{Frame: inner}, api.ErrSecret)
			continue
		}
		want := with(func(w *api.World) {
			w.Frames[inner].May, w.Queues[inner], w.Realms[inner].In = may, nil, of(cell(0))
		})
		wantStep(t, "may", w, api.Pick{Frame: inner}, want)
	}
}

// TestToldMuch: as long as a whole program has room, it runs, however much of it there is.
func TestToldMuch(t *testing.T) {
	for _, acts := range []int{0, 1, 39, 40} {
		w := with(func(w *api.World) {
			w.Realms[top].Told = make([]int, 4760)
			w.Programs[top] = slices.Repeat([]api.Act{act(api.Get, 8, 0, 0, 0)}, acts)
		})
		want := with(func(x *api.World) {
			x.Programs[top] = w.Programs[top]
			x.Realms[top].Told = append(make([]int, 4760), slices.Repeat([]int{9}, acts)...)
		})
		wantStep(t, "told much", w, api.Pick{Frame: top, Start: true}, want)
	}
}

// TestMessage: what came first is the message, just as it stands; who begins by itself has none, and takes none.
func TestMessage(t *testing.T) {
	taken := with(func(w *api.World) {
		w.Queues[left] = w.Queues[left][1:]
		w.Realms[left].In = of(cell(1, 1), cell(60))
		w.Realms[left].S.Nodes[0].Mark = 60
		w.Realms[left].Told = []int{5, -6, 0, 60}
	})
	wantStep(t, "the first one", house(), api.Pick{Frame: left}, taken)
	again := with(func(w *api.World) {
		w.Queues[left] = w.Queues[left][2:]
		w.Realms[left].In = of(cell(2, 2, 2), cell(61, 1), cell(62))
		w.Realms[left].S.Nodes[0].Mark = 61
		w.Realms[left].Told = []int{5, -6, 0, 60, 0, 61}
	})
	wantStep(t, "the second one", taken, api.Pick{Frame: left}, again)
	last := with(func(w *api.World) {
		w.Queues[left] = nil
		w.Realms[left].In = api.Graph{}
		w.Realms[left].S.Nodes[0].Mark = 61
		w.Realms[left].Told = []int{5, -6, 0, 60, 0, 61, -int(api.ErrWho), 61}
	})
	wantStep(t, "a message of nothing", again, api.Pick{Frame: left}, last)
	wantRefused(t, "none any more", last, api.Pick{Frame: left}, api.ErrLate)
	begun := with(func(w *api.World) {
		w.Realms[left].In = api.Graph{}
		w.Realms[left].Told = []int{5, -6, -int(api.ErrWho), 11}
	})
	wantStep(t, "by itself", house(), api.Pick{Frame: left, Start: true}, begun)
}

// TestProgram: act by act, each on what those ahead left; what has an error changes nothing, and the next one is done all the same.
func TestProgram(t *testing.T) {
	w := with(func(w *api.World) {
		w.Programs[inner] = []api.Act{
			act(api.Make, 5, 0, 0, 7),                         // hand 5 holds what is at place 2
			act(api.Insert, 0, 5, -1, 0),                      // a child of hand 0's
			act(api.Free, 0, 0, 0, 0),                         // which has a child, so
			act(api.Set, 5, 0, 0, 4),                          //
			act(api.Count, 0, 7, 0, 4),                        // 1
			act(api.Tell, inner, 0, 0, 2),                     // to itself
			act(0, 0, 0, 0, 0),                                // no such kind
			act(api.Open, 0, 0, 0, 0),                         // 8
			act(api.Push, 1, 0, 0, 8),                         //
			act(api.Pull, 0, 0, 0, 9),                         // the message is what it sent
			act(api.Take, 5, 0, 0, 1),                         //
			act(api.Get, 5, 0, 0, 0),                          // 21
			act(api.Pull, 0, 0, 0, 9),                         // nothing more came
			act(api.Get, 99, 0, 0, 0),                         // no such hand
			act(api.Reach, top, 8, 0, 0),                      // 9
			act(api.Leave, 0, 0, 0, top),                      // it isn't in this one
			act(api.Up, 5, 6, 0, 0), act(api.Get, 6, 0, 0, 0), // 21
		}
	})
	want := with(func(x *api.World) {
		x.Programs = w.Programs
		r := &x.Realms[inner]
		r.S.Nodes[0].Kids = []int{2}
		r.S.Nodes[2] = api.Node{Used: true, Uses: 2, Tag: 7, Mark: 21, Parent: 0, Host: -1}
		r.Hands[5], r.Hands[6] = api.Hand{Place: 2, Use: 2}, api.Hand{Place: 0, Use: 1}
		r.In = of(cell(1, 1), cell(21))
		r.Told = []int{0, 0, -6, 0, 1, 0, -3, 8, 0, 0, 0, 21, -8, -4, 9, -7, 0, 21}
		x.Queues[inner] = []api.Mail{{From: inner, G: of(cell(2, 1, 2), cell(21), cell(-22))}}
		x.Ports, _, _ = port.Open(x.Ports, 6, inner, 0)
	})
	wantStep(t, "a program", w, api.Pick{Frame: inner}, want)
}

// TestRun: step by step; what has an error changes nothing, and the others are done.
func TestRun(t *testing.T) {
	script := []api.Pick{{Frame: top}, {Frame: top, Start: true}, {Frame: left}, {Frame: 6}, {Frame: away}, {Frame: left}, {Frame: still}, {Frame: left}, {Frame: left}, {Frame: mute, Start: true}}
	want := []api.Errno{api.ErrLate, api.OK, api.OK, api.ErrWho, api.ErrGone, api.OK, api.ErrSecret, api.OK, api.ErrLate, api.OK}
	now := house()
	for k, p := range script {
		next, e := loop.Step(now, p)
		if e != want[k] {
			t.Errorf("step %d: errno %d, want %d", k, e, want[k])
		}
		if e == api.OK {
			now = next
		}
		got, said, e := loop.Run(house(), script[:k+1])
		if e != api.OK || !slices.Equal(said, want[:k+1]) || !loop.Same(got, now) {
			t.Errorf("%d steps: said %v, errno %d\n%+v, want\n%+v", k+1, said, e, got, now)
		}
	}
	if told := now.Realms[left].Told; !slices.Equal(told, []int{5, -6, 0, 60, 0, 61, -4, 61}) {
		t.Errorf("told %v", told)
	}
	got, said, e := loop.Run(house(), nil)
	if e != api.OK || len(said) != 0 || !loop.Same(got, house()) {
		t.Errorf("no steps: said %v, errno %d, %+v", said, e, got)
	}
	if got, said, e := loop.Run(api.World{}, make([]api.Pick, 2)); e != api.OK || !slices.Equal(said, []api.Errno{api.ErrWho, api.ErrWho}) || !loop.Same(got, api.World{}) {
		t.Errorf("of nothing: said %v, errno %d, %+v", said, e, got)
	}
}

// TestRunMany: as many steps as may be, of as many acts as may be; no more steps.
func TestRunMany(t *testing.T) {
	w := with(func(w *api.World) {
		w.Programs[top] = slices.Repeat([]api.Act{act(api.Get, 8, 0, 0, 0)}, api.MaxProgram)
	})
	script := slices.Repeat([]api.Pick{{Frame: top, Start: true}}, api.MaxScript+1)
	got, said, e := loop.Run(w, script[:api.MaxScript])
	if e != api.OK || len(said) != api.MaxScript || slices.Max(said) != api.OK {
		t.Errorf("as many as may be: said %v, errno %d", said, e)
	}
	if told := got.Realms[top].Told; !slices.Equal(told, slices.Repeat([]int{9}, 4800)) || loop.Check(got) != api.OK {
		t.Errorf("told %v", told)
	}
	if _, said, e := loop.Run(got, script[:1]); e != api.OK || !slices.Equal(said, []api.Errno{api.ErrMany}) {
		t.Errorf("one more, by itself: said %v, errno %d", said, e)
	}
	for _, picks := range [][]api.Pick{script, make([]api.Pick, 100000)} {
		if got, said, e := loop.Run(w, picks); e != api.ErrMany || said != nil || !isZero(got) {
			t.Errorf("%d steps: %+v, said %v, errno %d", len(picks), got, said, e)
		}
	}
}

// TestRunGone: who is gone, or went elsewhere, in an earlier step isn't there, or has nothing to run, in a later one.
func TestRunGone(t *testing.T) {
	w := with(func(w *api.World) {
		w.Programs[top] = []api.Act{act(api.Go, 5, 0, 0, left)}
		w.Programs[left] = []api.Act{act(api.Leave, 0, 0, 0, inner)}
	})
	got, said, e := loop.Run(w, []api.Pick{{Frame: inner}, {Frame: left}, {Frame: inner, Start: true}, {Frame: mute, Start: true}, {Frame: top, Start: true}, {Frame: mute, Start: true}, {Frame: left}, {Frame: left, Start: true}})
	want := []api.Errno{api.OK, api.OK, api.ErrGone, api.OK, api.OK, api.ErrGone, api.ErrLate, api.OK}
	if e != api.OK || !slices.Equal(said, want) {
		t.Errorf("said %v, errno %d, want %v", said, e, want)
	}
	if r, _ := realm.New(4); !realm.Same(got.Realms[left], r) {
		t.Errorf("what went elsewhere has %+v", got.Realms[left])
	}
}

// TestReadme: what README.md tells of worlds.
func TestReadme(t *testing.T) {
	r, _ := realm.New(4)
	w := api.World{
		Frames: []api.Frame{{Parent: -1, Origin: 1, May: api.All}, {Parent: 0, Origin: 2, May: api.Script}},
		Realms: []api.Realm{r, r},
		Programs: [][]api.Act{
			{{Kind: api.Make, A: 0, N: 5}, {Kind: api.Set, A: 0, N: 30}, {Kind: api.Tell, A: 1, N: 1}},
			{{Kind: api.Make, A: 3}, {Kind: api.Take, A: 3, N: 1}, {Kind: api.Get, A: 3}, {Kind: api.Reach, A: 0, B: 0}, {Kind: api.Tell}},
		},
		Queues: make([][]api.Mail, 2),
	}
	w, said, e := loop.Run(w, []api.Pick{{Frame: 0, Start: true}, {Frame: 1}, {Frame: 1}})
	if e != api.OK || !slices.Equal(said, []api.Errno{api.OK, api.OK, api.ErrLate}) {
		t.Errorf("said %v, errno %d", said, e)
	}
	no := -int(api.ErrSecret)
	if told := w.Realms[1].Told; !slices.Equal(told, []int{0, 0, 30, no, no}) {
		t.Errorf("told %v", told)
	}
	if _, e := loop.Step(w, api.Pick{Frame: 0, Start: true}); e != api.OK {
		t.Errorf("one step more: errno %d", e)
	}
}
