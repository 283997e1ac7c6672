package loop_test

import (
	"math"
	"slices"
	"strconv"
	"testing"

	"glasshouse/api"
	"glasshouse/frame"
	"glasshouse/ground"
	"glasshouse/loop"
	"glasshouse/nav"
	"glasshouse/port"
	"glasshouse/realm"
)

// nothing is done to a world.
func nothing(*api.World) {}

// copyOf is a world of new memory, but for what is in mails and in what came to ports.
func copyOf(w api.World) api.World {
	return api.World{
		Frames:   slices.Clone(w.Frames),
		Realms:   ground.CopyEach(w.Realms, ground.CopyRealm),
		Programs: ground.CopyEach(w.Programs, slices.Clone),
		Queues:   ground.CopyEach(w.Queues, slices.Clone),
		Ports:    slices.Clone(w.Ports),
	}
}

// wantAct: by this frame, which begins by itself, in this world, an act tells so much, and does no more than this.
func wantAct(t *testing.T, what string, w api.World, self int, x api.Act, told int, do func(w *api.World)) {
	t.Helper()
	w.Programs = slices.Clone(w.Programs)
	w.Programs[self] = []api.Act{x}
	want := copyOf(w)
	want.Realms[self].In = api.Graph{}
	want.Realms[self].Told = append(want.Realms[self].Told, told)
	do(&want)
	wantStep(t, what+": "+strconv.Itoa(x.Kind), w, api.Pick{Frame: self, Start: true}, want)
}

// wantError: the act has this error, and changes nothing.
func wantError(t *testing.T, what string, w api.World, self int, x api.Act, e api.Errno) {
	t.Helper()
	wantAct(t, what, w, self, x, -int(e), nothing)
}

// runners are the frames of the house that can run programs.
var runners = []int{top, left, inner, mute}

// posters are those of them that may send.
var posters = []int{top, left, inner}

// noHands is some of what is no hand.
var noHands = []int{math.MinInt, -2, -1, api.MaxHands, api.MaxHands + 1, math.MaxInt}

// noCounts is some of what are no hands to tell the marks of.
var noCounts = []int{math.MinInt, -1, api.MaxKids + 1, api.MaxHands, math.MaxInt}

// marked is a graph of these marks.
func marked(marks ...int) api.Graph {
	g := of(cell(len(marks)))
	for k, mark := range marks {
		g.Cells[0].Kids = append(g.Cells[0].Kids, k+1)
		g.Cells = append(g.Cells, cell(mark))
	}
	return g
}

func TestAsk(t *testing.T) {
	for _, self := range runners {
		for k, length := range []int{top: 2, left: 2, inner: 0, mute: 0} {
			wantAct(t, "how many", house(), self, act(api.Ask, -9, 99, 99, k), length, nothing)
		}
		wantAct(t, "of what may little", house(), self, act(api.Ask, 0, 0, 0, still), 0, nothing)
		wantError(t, "of what is gone", house(), self, act(api.Ask, 0, 0, 0, away), api.ErrGone)
		for _, k := range noFrames {
			wantError(t, "of none", house(), self, act(api.Ask, 0, 0, 0, k), api.ErrWho)
		}
	}
}

func TestTell(t *testing.T) {
	for n := range api.MaxKids + 1 {
		mail := api.Mail{From: top, G: marked([]int{1, 2, 3, 4, 5, 6, 7, 8}[:n]...)}
		for _, to := range []int{top, left, inner, mute, still} {
			wantAct(t, "sent", house(), top, act(api.Tell, to, 99, -9, n), 0, func(w *api.World) {
				w.Queues[to] = append(w.Queues[to], mail)
			})
		}
	}
	wantAct(t, "the marks", house(), left, act(api.Tell, mute, 0, 0, 2), 0, func(w *api.World) {
		w.Queues[mute] = []api.Mail{{From: left, G: of(cell(2, 1, 2), cell(11), cell(-12))}}
	})
	// No hand is asked that isn't told of.
	wantAct(t, "no marks", house(), left, act(api.Tell, left, 0, 0, 0), 0, func(w *api.World) {
		w.Queues[left] = append(w.Queues[left], api.Mail{From: left, G: of(cell(0))})
	})
}

// TestTellRefused: each error, and which of them is told first.
func TestTellRefused(t *testing.T) {
	full := func(k int) api.World {
		return with(func(w *api.World) { w.Queues[k] = make([]api.Mail, api.MaxQueue) })
	}
	for _, n := range append([]int{0, 2, 3, 4}, noCounts...) {
		for _, self := range posters {
			for _, k := range noFrames {
				wantError(t, "to none", house(), self, act(api.Tell, k, 0, 0, n), api.ErrWho)
			}
			wantError(t, "to what is gone", full(away), self, act(api.Tell, away, 0, 0, n), api.ErrGone)
		}
		for _, to := range []int{top, left, mute} {
			wantError(t, "may not", full(to), mute, act(api.Tell, to, 0, 0, n), api.ErrSecret)
		}
		wantError(t, "may not, to what is gone", house(), mute, act(api.Tell, away, 0, 0, n), api.ErrGone)
	}
	for _, w := range []api.World{house(), full(mute)} {
		for _, n := range noCounts {
			wantError(t, "no such hands", w, left, act(api.Tell, mute, 0, 0, n), api.ErrRange)
		}
		for n := spent + 1; n <= api.MaxKids; n++ {
			wantError(t, "the first that is wrong", w, left, act(api.Tell, mute, 0, 0, n), api.ErrGone)
		}
		w.Realms[left].Hands[spent].Place = 0
		for n := blank + 1; n <= api.MaxKids; n++ {
			wantError(t, "the first that is wrong", w, left, act(api.Tell, mute, 0, 0, n), api.ErrWho)
		}
	}
	wantError(t, "no room", full(mute), left, act(api.Tell, mute, 0, 0, 2), api.ErrMany)
	wantError(t, "no room of its own", full(left), left, act(api.Tell, left, 0, 0, 0), api.ErrMany)
}

// TestTellLast: there is room for the last one that may be; and what one takes makes room for one of its own.
func TestTellLast(t *testing.T) {
	nearly := with(func(w *api.World) { w.Queues[mute] = make([]api.Mail, api.MaxQueue-1) })
	wantAct(t, "the last one", nearly, left, act(api.Tell, mute, 0, 0, 1), 0, func(w *api.World) {
		w.Queues[mute] = append(w.Queues[mute], api.Mail{From: left, G: marked(11)})
	})
	w := with(func(w *api.World) {
		w.Queues[left] = make([]api.Mail, api.MaxQueue)
		w.Programs[left] = slices.Repeat([]api.Act{act(api.Tell, left, 0, 0, 1)}, 2)
	})
	want := with(func(v *api.World) {
		v.Queues[left] = append(make([]api.Mail, api.MaxQueue-1), api.Mail{From: left, G: marked(11)})
		v.Programs = w.Programs
		v.Realms[left].In = api.Graph{}
		v.Realms[left].Told = []int{5, -6, 0, -int(api.ErrMany)}
	})
	wantStep(t, "to itself", w, api.Pick{Frame: left}, want)
}

func TestReach(t *testing.T) {
	for _, c := range [][2]int{{top, inner}, {inner, top}, {left, mute}, {mute, left}, {top, top}, {left, left}, {inner, inner}, {mute, mute}} {
		self, to := c[0], c[1]
		marks := []int{1, 2}
		if to != top {
			marks = []int{10*to + 1, -10*to - 2}
		}
		for hand, mark := range marks {
			wantAct(t, "the mark", house(), self, act(api.Reach, to, hand, 99, -9), mark, nothing)
		}
		for _, hand := range noHands {
			wantError(t, "by no hand", house(), self, act(api.Reach, to, hand, 0, 0), api.ErrWho)
		}
		wantError(t, "by a hand that never held anything", house(), self, act(api.Reach, to, 15, 0, 0), api.ErrWho)
	}
	wantError(t, "what is gone", house(), top, act(api.Reach, inner, spent, 0, 0), api.ErrGone)
	wantError(t, "what is gone", house(), inner, act(api.Reach, top, 9, 0, 0), api.ErrGone)
	wantError(t, "what never was", house(), top, act(api.Reach, inner, blank, 0, 0), api.ErrWho)
	for _, hand := range append([]int{0, 1, spent, blank}, noHands...) {
		for _, self := range runners {
			for _, k := range noFrames {
				wantError(t, "of none", house(), self, act(api.Reach, k, hand, 0, 0), api.ErrWho)
			}
			wantError(t, "of what is gone", house(), self, act(api.Reach, away, hand, 0, 0), api.ErrGone)
			wantError(t, "of another origin", house(), self, act(api.Reach, still, hand, 0, 0), api.ErrSecret)
		}
		for _, c := range [][2]int{{top, left}, {top, mute}, {left, top}, {left, inner}, {inner, left}, {inner, mute}, {mute, top}, {mute, inner}} {
			wantError(t, "of another origin", house(), c[0], act(api.Reach, c[1], hand, 0, 0), api.ErrSecret)
		}
	}
}

// TestLeave: what is gone keeps what it has; nobody leaves itself, or what it isn't above.
func TestLeave(t *testing.T) {
	for _, c := range [][2]int{{top, left}, {top, inner}, {top, mute}, {top, still}, {left, inner}, {left, mute}} {
		wantAct(t, "left", house(), c[0], act(api.Leave, -9, 99, 99, c[1]), 0, func(w *api.World) {
			w.Frames, _ = frame.Discard(w.Frames, c[1])
		})
	}
	whole, _ := loop.Step(with(func(w *api.World) { w.Programs[top] = []api.Act{act(api.Leave, 0, 0, 0, left)} }), api.Pick{Frame: top, Start: true})
	for k, gone := range []bool{false, true, true, true, true, false} {
		if whole.Frames[k].Gone != gone {
			t.Errorf("frame %d: gone: %t", k, !gone)
		}
	}
	for _, c := range [][2]int{{top, top}, {left, left}, {left, top}, {left, still}, {inner, top}, {inner, left}, {inner, mute}, {mute, left}, {mute, mute}, {mute, inner}} {
		wantError(t, "not above it", house(), c[0], act(api.Leave, 0, 0, 0, c[1]), api.ErrSecret)
		wantError(t, "not above it", house(), c[0], act(api.Go, 3, 0, 0, c[1]), api.ErrSecret)
		wantError(t, "not above it", house(), c[0], act(api.Go, 10, 0, 0, c[1]), api.ErrSecret)
	}
	for _, kind := range []int{api.Leave, api.Go} {
		for _, self := range runners {
			for _, k := range noFrames {
				wantError(t, "none", house(), self, act(kind, 10, 0, 0, k), api.ErrWho)
			}
			wantError(t, "gone already", house(), self, act(kind, 10, 0, 0, away), api.ErrGone)
		}
	}
}

// TestGo: who goes elsewhere has nothing there, but room; what was in it is gone, and its ports stay another one's.
func TestGo(t *testing.T) {
	for _, c := range [][2]int{{top, left}, {top, inner}, {top, mute}, {left, inner}, {left, mute}} {
		for origin := range api.MaxOrigin + 1 {
			wantAct(t, "gone elsewhere", house(), c[0], act(api.Go, origin, 99, 99, c[1]), 0, func(w *api.World) {
				w.Frames, _ = nav.Go(w.Frames, c[1], origin)
				w.Queues[c[1]], w.Programs[c[1]] = nil, nil
				w.Realms[c[1]], _ = realm.New(3 + c[1])
			})
		}
		for _, origin := range []int{math.MinInt, -1, api.MaxOrigin + 1, math.MaxInt} {
			wantError(t, "no origin", house(), c[0], act(api.Go, origin, 0, 0, c[1]), api.ErrRange)
		}
	}
	wantError(t, "no more turns", house(), top, act(api.Go, 1, 0, 0, still), api.ErrMany)
	wantError(t, "no more turns, no origin", house(), top, act(api.Go, 10, 0, 0, still), api.ErrRange)
	whole, _ := loop.Step(with(func(w *api.World) { w.Programs[top] = []api.Act{act(api.Go, 7, 0, 0, left)} }), api.Pick{Frame: top, Start: true})
	want := api.Frame{Parent: top, Origin: 7, May: api.All, Turn: 4}
	if whole.Frames[left] != want || !whole.Frames[inner].Gone || !whole.Frames[mute].Gone || !port.Same(whole.Ports, house().Ports) {
		t.Errorf("%+v, %+v", whole.Frames, whole.Ports)
	}
}

// TestGoAgain: at a later turn, a frame has no port that it had, nor what comes to it.
func TestGoAgain(t *testing.T) {
	w := with(func(w *api.World) { w.Programs[top] = []api.Act{act(api.Go, 2, 0, 0, left)} })
	w, e := loop.Step(w, api.Pick{Frame: top, Start: true})
	if e != api.OK {
		t.Fatal(e)
	}
	for _, k := range []int{1, 2, 4} {
		for _, x := range []api.Act{act(api.Pass, top, 0, 0, k), act(api.Push, 0, 0, 0, k), act(api.Pull, 0, 0, 0, k), act(api.Shut, 0, 0, 0, k)} {
			wantError(t, "its port at an earlier turn", w, left, x, api.ErrSecret)
		}
	}
	wantAct(t, "into its port at an earlier turn", w, top, act(api.Push, 1, 0, 0, 0), 0, func(w *api.World) {
		w.Ports[1].Came = []api.Graph{marked(1)}
	})
	wantAct(t, "at its turn", w, left, act(api.Open, 0, 0, 0, 0), 8, func(w *api.World) {
		w.Ports = append(w.Ports, api.Port{Owner: left, Turn: 4, Mate: 9}, api.Port{Owner: left, Turn: 4, Mate: 8})
	})
}

// TestOpen: the number of the first one is told; who may not send may have ports.
func TestOpen(t *testing.T) {
	for _, self := range runners {
		for ports := 0; ports <= 8; ports += 2 {
			w := with(func(w *api.World) { w.Ports = w.Ports[:ports] })
			turn := w.Frames[self].Turn
			wantAct(t, "opened", w, self, act(api.Open, -9, 99, 99, -9), ports, func(w *api.World) {
				w.Ports = append(w.Ports, api.Port{Owner: self, Turn: turn, Mate: ports + 1}, api.Port{Owner: self, Turn: turn, Mate: ports})
			})
		}
		full := with(func(w *api.World) {
			for range 2 {
				w.Ports, _, _ = port.Open(w.Ports, 6, away, 0)
			}
		})
		wantError(t, "no more", full, self, act(api.Open, 0, 0, 0, 0), api.ErrMany)
	}
}

// noPorts is some of what is no port of the house.
var noPorts = []int{math.MinInt, -1, 8, 9, api.MaxPorts, math.MaxInt}

// wantHeld: by each of these frames, an act on a port has the errors that all such acts have.
func wantHeld(t *testing.T, frames []int, actOn func(k int) api.Act) {
	t.Helper()
	held := map[int][]int{top: {0, 7}, left: {1, 2}, inner: {5}, mute: {3}}
	for _, self := range frames {
		for _, k := range noPorts {
			wantError(t, "no port", house(), self, actOn(k), api.ErrWho)
		}
		for k := range 8 {
			if !slices.Contains(held[self], k) {
				wantError(t, "another one's", house(), self, actOn(k), api.ErrSecret)
			}
		}
	}
	wantError(t, "shut", house(), inner, actOn(5), api.ErrGone)
}

func TestPass(t *testing.T) {
	for _, to := range []int{top, left, inner, mute, still} {
		turn := house().Frames[to].Turn
		for _, c := range [][2]int{{top, 0}, {top, 7}, {left, 1}, {left, 2}} {
			wantAct(t, "passed", house(), c[0], act(api.Pass, to, 99, -9, c[1]), 0, func(w *api.World) {
				w.Ports[c[1]].Owner, w.Ports[c[1]].Turn = to, turn
			})
		}
		wantHeld(t, posters, func(k int) api.Act { return act(api.Pass, to, 0, 0, k) })
		for _, k := range append([]int{0, 3, 5}, noPorts...) {
			wantError(t, "may not", house(), mute, act(api.Pass, to, 0, 0, k), api.ErrSecret)
		}
	}
	for _, k := range append([]int{0, 1, 3, 5}, noPorts...) {
		for _, self := range runners {
			for _, to := range noFrames {
				wantError(t, "to none", house(), self, act(api.Pass, to, 0, 0, k), api.ErrWho)
			}
			wantError(t, "to what is gone", house(), self, act(api.Pass, away, 0, 0, k), api.ErrGone)
		}
	}
}

func TestPush(t *testing.T) {
	for n := range api.MaxKids + 1 {
		g := marked([]int{1, 2, 3, 4, 5, 6, 7, 8}[:n]...)
		wantAct(t, "pushed", house(), top, act(api.Push, n, 99, -9, 0), 0, func(w *api.World) {
			w.Ports[1].Came = []api.Graph{g}
		})
		wantAct(t, "to what is gone", house(), top, act(api.Push, n, 0, 0, 7), 0, func(w *api.World) {
			w.Ports[6].Came = []api.Graph{g}
		})
	}
	wantAct(t, "behind what came", house(), left, act(api.Push, 2, 0, 0, 1), 0, func(w *api.World) {
		w.Ports[0].Came = append(w.Ports[0].Came, marked(11, -12))
	})
	wantHeld(t, posters, func(k int) api.Act { return act(api.Push, 0, 0, 0, k) })
	wantHeld(t, posters, func(k int) api.Act { return act(api.Push, 2, 0, 0, k) })
}

// TestPushRefused: that it may not, then what is wrong with the marks, then what is wrong with the port.
func TestPushRefused(t *testing.T) {
	full := with(func(w *api.World) {
		w.Ports[0].Came = make([]api.Graph, api.MaxQueue)
		w.Ports[3].Shut, w.Frames[mute].May = true, 0
	})
	wantError(t, "no room", full, left, act(api.Push, 2, 0, 0, 1), api.ErrMany)
	wantError(t, "a mate that is shut", full, left, act(api.Push, 2, 0, 0, 2), api.ErrGone)
	for k := -1; k <= 8; k++ {
		for _, n := range noCounts {
			wantError(t, "no such hands", full, left, act(api.Push, n, 0, 0, k), api.ErrRange)
			wantError(t, "may not", house(), mute, act(api.Push, n, 0, 0, k), api.ErrSecret)
		}
		for n := spent + 1; n <= api.MaxKids; n++ {
			wantError(t, "a hand on what is gone", full, left, act(api.Push, n, 0, 0, k), api.ErrGone)
		}
		wantError(t, "may not", house(), mute, act(api.Push, 0, 0, 0, k), api.ErrSecret)
	}
	unheld := with(func(w *api.World) { w.Realms[left].Hands[0] = api.Hand{} })
	for k := -1; k <= 8; k++ {
		wantError(t, "a hand that holds nothing", unheld, left, act(api.Push, 1, 0, 0, k), api.ErrWho)
	}
}

// TestPull: what came is the message, just as it came; who may not send may pull.
func TestPull(t *testing.T) {
	wantAct(t, "pulled", house(), left, act(api.Pull, -9, 99, 99, 2), 0, func(w *api.World) {
		w.Ports[2].Came = w.Ports[2].Came[1:]
		w.Realms[left].In = of(cell(72), cell(73, 0))
	})
	wantAct(t, "pulled", house(), top, act(api.Pull, 0, 0, 0, 0), 0, func(w *api.World) {
		w.Ports[0].Came = nil
		w.Realms[top].In = of(cell(70, 1), cell(71))
	})
	came := with(func(w *api.World) { w.Ports[3].Came = []api.Graph{of(cell(9))} })
	wantAct(t, "by one that may not send", came, mute, act(api.Pull, 0, 0, 0, 3), 0, func(w *api.World) {
		w.Ports[3].Came = nil
		w.Realms[mute].In = of(cell(9))
	})
	wantHeld(t, runners, func(k int) api.Act { return act(api.Pull, 0, 0, 0, k) })
	for _, c := range [][2]int{{top, 7}, {left, 1}, {mute, 3}} {
		wantError(t, "nothing came", house(), c[0], act(api.Pull, 0, 0, 0, c[1]), api.ErrLate)
	}
	w := with(func(w *api.World) {
		w.Programs[left] = append(slices.Repeat([]api.Act{act(api.Pull, 0, 0, 0, 2)}, 4), act(api.Take, 0, 0, 0, 0), act(api.Get, 0, 0, 0, 0))
	})
	w, e := loop.Step(w, api.Pick{Frame: left})
	if told := w.Realms[left].Told[2:]; e != api.OK || !slices.Equal(told, []int{0, 0, 0, -int(api.ErrLate), 0, 74}) {
		t.Errorf("one by one: told %v, errno %d", told, e)
	}
}

func TestShut(t *testing.T) {
	for _, c := range [][2]int{{top, 0}, {top, 7}, {left, 1}, {left, 2}, {mute, 3}} {
		wantAct(t, "shut", house(), c[0], act(api.Shut, -9, 99, 99, c[1]), 0, func(w *api.World) {
			w.Ports[c[1]].Shut, w.Ports[c[1]].Came = true, nil
		})
	}
	wantHeld(t, runners, func(k int) api.Act { return act(api.Shut, 0, 0, 0, k) })
}

// TestOthers: all other acts, right and wrong ones, are done to the frame's own realm, and to nothing else.
func TestOthers(t *testing.T) {
	numbers := []int{math.MinInt, -1, 0, 1, spent, blank, 7, 15, 16, api.Whatever, math.MaxInt}
	done := map[api.Errno]int{}
	for _, kind := range []int{api.Make, api.Free, api.Insert, api.Remove, api.Set, api.Get, api.Host, api.Up, api.Take, api.Count, api.Flat, math.MinInt, -1, 0, 22, 23, math.MaxInt} {
		for _, a := range numbers {
			for _, b := range numbers {
				for _, n := range numbers {
					x := act(kind, a, b, -1, n)
					r := house().Realms[inner]
					got, told, e := realm.Do(r, x)
					done[e]++
					if e != api.OK {
						wantError(t, "with an error", house(), inner, x, e)
						continue
					}
					got.Told = append(got.Told, told)
					wantAct(t, "done", house(), inner, x, told, func(w *api.World) { w.Realms[inner] = got })
				}
			}
		}
	}
	for _, e := range []api.Errno{api.OK, api.ErrRange, api.ErrForm, api.ErrWho, api.ErrGone, api.ErrTree} {
		if done[e] == 0 {
			t.Errorf("errno %d: never", e)
		}
	}
}
