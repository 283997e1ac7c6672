package loop_test

import (
	"math"
	"reflect"
	"slices"
	"testing"

	"glasshouse/api"
	"glasshouse/loop"
)

// span is the memory of a list, with the spare room behind it.
type span struct {
	from, to uintptr
	kind     reflect.Type
}

// spans are those of all lists of a thing that has memory.
func spans(v reflect.Value) []span {
	var all []span
	switch v.Kind() {
	case reflect.Struct:
		for k := range v.NumField() {
			all = append(all, spans(v.Field(k))...)
		}
	case reflect.Slice:
		if size := uintptr(v.Cap()) * v.Type().Elem().Size(); size > 0 {
			all = append(all, span{v.Pointer(), v.Pointer() + size, v.Type()})
		}
		for k := range v.Len() {
			all = append(all, spans(v.Index(k))...)
		}
	}
	return all
}

// wantApart: no two of these share any memory.
func wantApart(t *testing.T, what string, all []span) {
	t.Helper()
	slices.SortFunc(all, func(a, b span) int {
		if a.from < b.from {
			return -1
		}
		return 1
	})
	for k := 1; k < len(all); k++ {
		if all[k].from < all[k-1].to {
			t.Errorf("%s: lists of %v and %v share memory", what, all[k-1].kind, all[k].kind)
		}
	}
}

// roomy is a copy of a thing with spare room behind each list, in which something stands, and all of that memory.
func roomy(v reflect.Value, all *[]any) reflect.Value {
	switch v.Kind() {
	case reflect.Struct:
		s := reflect.New(v.Type()).Elem()
		for k := range v.NumField() {
			s.Field(k).Set(roomy(v.Field(k), all))
		}
		return s
	case reflect.Slice:
		long := reflect.MakeSlice(v.Type(), v.Len()+2, v.Len()+2)
		for k := range v.Len() {
			long.Index(k).Set(roomy(v.Index(k), all))
		}
		for k := v.Len(); k < long.Len(); k++ {
			fill(long.Index(k))
		}
		*all = append(*all, long.Interface())
		return long.Slice(0, v.Len())
	}
	return v
}

// fill puts numbers into a thing, but for its lists.
func fill(v reflect.Value) {
	switch v.Kind() {
	case reflect.Struct:
		for k := range v.NumField() {
			fill(v.Field(k))
		}
	case reflect.Int:
		v.SetInt(77)
	}
}

// roomyWorld is a world with spare room behind each list, and all of its memory.
func roomyWorld(w api.World) (api.World, []any) {
	var all []any
	v := roomy(reflect.ValueOf(w), &all)
	return v.Interface().(api.World), all
}

// everyAct is the house with programs in which each act is done, and does something.
func everyAct() api.World {
	return with(func(w *api.World) {
		w.Programs[top] = []api.Act{
			act(api.Make, 10, 0, 0, 5), act(api.Insert, 0, 10, -1, 0), act(api.Set, 10, 0, 0, 4), act(api.Get, 10, 0, 0, 0), act(api.Host, 1, 11, 0, 1), act(api.Up, 10, 12, 0, 0),
			act(api.Count, 0, 5, 0, 4), act(api.Flat, 0, 0, 0, 0), act(api.Remove, 10, 0, 0, 0), act(api.Free, 10, 0, 0, 0),
			act(api.Ask, 0, 0, 0, left), act(api.Tell, left, 0, 0, 8), act(api.Tell, top, 0, 0, 2), act(api.Reach, inner, 0, 0, 0),
			act(api.Open, 0, 0, 0, 0), act(api.Push, 3, 0, 0, 8), act(api.Push, 2, 0, 0, 8), act(api.Pull, 0, 0, 0, 9), act(api.Take, 0, 0, 0, 1),
			act(api.Pass, left, 0, 0, 9), act(api.Shut, 0, 0, 0, 8), act(api.Go, 3, 0, 0, mute), act(api.Leave, 0, 0, 0, still),
		}
		w.Programs[left] = []api.Act{act(api.Pull, 0, 0, 0, 2), act(api.Tell, left, 0, 0, 1), act(api.Push, 1, 0, 0, 1), act(api.Leave, 0, 0, 0, inner)}
		w.Queues[top] = []api.Mail{{From: left, G: marked(1, 2)}, {From: left, G: marked(3, 4)}}
	})
}

// TestEveryAct: in that world none has an error.
func TestEveryAct(t *testing.T) {
	for _, self := range []int{top, left} {
		got, e := loop.Step(everyAct(), api.Pick{Frame: self})
		program := everyAct().Programs[self]
		told := got.Realms[self].Told
		if e != api.OK || slices.Min(told[len(told)-len(program):]) < 0 {
			t.Errorf("frame %d: told %v, errno %d", self, told, e)
		}
	}
}

// TestOnlyRead: what was handed in stays as it was, and the spare room behind it; no list of an answer shares memory with it, or with another one.
func TestOnlyRead(t *testing.T) {
	w, room := roomyWorld(everyAct())
	_, want := roomyWorld(everyAct())
	script := []api.Pick{{Frame: top}, {Frame: left}, {Frame: top, Start: true}, {Frame: 9}}
	hold := func(what string, got, plain api.World, e api.Errno) {
		t.Helper()
		if e != api.OK || !loop.Same(got, plain) {
			t.Errorf("%s: errno %d\n%+v, want\n%+v", what, e, got, plain)
		}
		wantApart(t, what, slices.Concat(spans(reflect.ValueOf(got)), spans(reflect.ValueOf(w))))
		if !reflect.DeepEqual(room, want) {
			t.Fatalf("%s: what was handed in is\n%+v, want\n%+v", what, room, want)
		}
	}
	for _, p := range script[:3] {
		got, e := loop.Step(w, p)
		plain, _ := loop.Step(everyAct(), p)
		hold("Step", got, plain, e)
	}
	for n := range len(script) + 1 {
		picks := slices.Clone(script)[:n]
		got, said, e := loop.Run(w, picks)
		plain, _, _ := loop.Run(everyAct(), picks)
		hold("Run", got, plain, e)
		if len(said) != n || !slices.Equal(picks[:cap(picks)][:4], script) {
			t.Errorf("Run: said %v of %v", said, picks)
		}
	}
	loop.Check(w)
	loop.Same(w, w)
	if _, e := loop.Step(w, api.Pick{Frame: 9}); e != api.ErrWho || !reflect.DeepEqual(room, want) {
		t.Errorf("what was handed in is\n%+v, want\n%+v", room, want)
	}
}

// TestSharedLists: lists that were handed in as one are one each in the answer.
func TestSharedLists(t *testing.T) {
	shared := func() api.World {
		w := everyAct()
		kids, told := []int{1, 1}, []int{1, 1}
		g := of(cell(5, 1), cell(6))
		g.Cells[0].Kids, g.Cells[1].Kids = kids, kids
		graphs := []api.Graph{g, g}
		queue := []api.Mail{{From: left, G: g}, {From: left, G: g}}
		r := room(9, 1, 2)
		r.In, r.Told = g, told
		for k := range w.Frames {
			w.Realms[k], w.Queues[k], w.Programs[k] = r, queue, w.Programs[top]
		}
		for k := range 4 {
			w.Ports[k].Came = graphs
		}
		return w
	}
	w, was := shared(), shared()
	for self := range 4 {
		for _, start := range []bool{true, false} {
			p := api.Pick{Frame: self, Start: start}
			got, e := loop.Step(w, p)
			if e != api.OK || !loop.Same(w, was) {
				t.Errorf("errno %d, of\n%+v, that was\n%+v", e, w, was)
			}
			wantApart(t, "Step", spans(reflect.ValueOf(got)))
			run, _, _ := loop.Run(w, []api.Pick{p, p})
			wantApart(t, "Run", spans(reflect.ValueOf(run)))
		}
	}
	run, _, _ := loop.Run(w, nil)
	wantApart(t, "Run of nothing", spans(reflect.ValueOf(run)))
}

// TestWild: no call panics, and each ends, whatever it is given; what Check says, the others say; the same call answers the same.
func TestWild(t *testing.T) {
	wild := []int{math.MinInt, -1, 0, 1, 2, 16, math.MaxInt}
	worlds := []api.World{{}, {Frames: make([]api.Frame, 100000)}, {Ports: make([]api.Port, 100000)}}
	for _, c := range wrongWorlds() {
		worlds = append(worlds, c.w)
	}
	for _, a := range wild {
		for _, b := range wild {
			var program []api.Act
			for kind := range 23 {
				program = append(program, act(kind, a, b, a, b))
			}
			worlds = append(worlds,
				with(func(w *api.World) { w.Programs[top], w.Programs[left] = program, program }),
				with(func(w *api.World) {
					w.Realms[left].Hands = slices.Repeat([]api.Hand{{Place: a, Use: b}}, 16)
					w.Realms[inner].Hands = w.Realms[left].Hands
					w.Programs[top] = []api.Act{act(api.Reach, inner, 3, 0, 0)}
				}),
				with(func(w *api.World) { w.Frames[left].Parent, w.Frames[left].Turn = a, b }),
				with(func(w *api.World) { w.Queues[left][0].From, w.Queues[left][0].G.Cells[0].N = a, b }),
				with(func(w *api.World) { w.Ports[0].Mate, w.Ports[1].Owner = a, b }))
		}
	}
	for _, w := range worlds {
		for _, k := range wild {
			for _, start := range []bool{true, false} {
				holdWild(t, w, api.Pick{Frame: k, Start: start})
			}
		}
	}
}

// holdWild: a pick of any frame answers the same twice, nothing beside an error, a right world without one, and what Check says.
func holdWild(t *testing.T, w api.World, p api.Pick) {
	t.Helper()
	got, e := loop.Step(w, p)
	again, f := loop.Step(w, p)
	if e != f || !loop.Same(got, again) {
		t.Fatalf("%+v: %+v: %+v, errno %d; again %+v, errno %d", w, p, got, e, again, f)
	}
	wrong := loop.Check(w)
	if wrong != api.OK && e != wrong || e != api.OK && !isZero(got) || e == api.OK && loop.Check(got) != api.OK {
		t.Fatalf("%+v: %+v: %+v, errno %d", w, p, got, e)
	}
	run, said, r := loop.Run(w, []api.Pick{p, p})
	if r != wrong || r != api.OK && (said != nil || !isZero(run)) || r == api.OK && (len(said) != 2 || said[0] != e || loop.Check(run) != api.OK) {
		t.Fatalf("%+v: %+v: %+v, said %v, errno %d", w, p, run, said, r)
	}
}
