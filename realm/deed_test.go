package realm_test

import (
	"math"
	"testing"

	"glasshouse/api"
	"glasshouse/realm"
)

// noValues is some of what no Mark is.
var noValues = []int{math.MinInt, api.Whatever, api.MaxValue + 1, math.MaxInt}

// onWhatIsNot: by hands that hold nothing, an act of this kind has Holds' error.
func onWhatIsNot(t *testing.T, kind, b, c, n int) {
	t.Helper()
	for hand, want := range map[int]api.Errno{spent: api.ErrGone, freed: api.ErrGone, blank: api.ErrWho, 15: api.ErrWho} {
		wantNone(t, "by a hand that holds nothing", house(), act(kind, hand, b, c, n), want)
	}
	for _, hand := range []api.Hand{{Place: 9, Use: 1}, {Place: -1, Use: 1}, {Place: 0, Use: 2}, {Place: 0, Use: -1}, {Place: 8, Use: 1}, {Place: math.MaxInt, Use: math.MinInt}} {
		r := with(func(r *api.Realm) { r.Hands[3] = hand })
		wantNone(t, "by a hand on what isn't there", r, act(kind, 3, b, c, n), api.ErrWho)
	}
}

// TestMake: the first place that isn't in use; the hand held something, or not.
func TestMake(t *testing.T) {
	for hand := range api.MaxHands {
		for _, tag := range []int{0, 1, api.FirstSlot, api.MaxTag} {
			want := with(func(r *api.Realm) {
				r.S.Nodes[7] = api.Node{Used: true, Uses: 5, Tag: tag, Parent: -1, Host: -1}
				r.Hands[hand] = api.Hand{Place: 7, Use: 5}
			})
			// What else the act has means nothing.
			wantDone(t, "made", house(), act(api.Make, hand, -7, 99, tag), want, 0)
		}
	}
	for _, tag := range []int{math.MinInt, -1, api.MaxTag + 1, math.MaxInt} {
		wantNone(t, "no tag", house(), act(api.Make, 9, 0, 0, tag), api.ErrRange)
	}
	worn := with(func(r *api.Realm) { r.S.Nodes[7].Uses, r.S.Nodes[8].Uses = api.MaxUses, api.MaxUses })
	wantNone(t, "no place", worn, act(api.Make, 9, 0, 0, 1), api.ErrMany)
	wantNone(t, "no place, no tag", worn, act(api.Make, 9, 0, 0, -1), api.ErrRange)
	r, _ := realm.New(0)
	wantNone(t, "no places", r, act(api.Make, 0, 0, 0, 1), api.ErrMany)
}

// TestFree: the hand stays, and holds nothing any more.
func TestFree(t *testing.T) {
	want := with(func(r *api.Realm) { r.S.Nodes[6] = api.Node{Uses: 2, Parent: -1, Host: -1} })
	wantDone(t, "freed", house(), act(api.Free, alone, -7, 99, -1), want, 0)
	for _, hand := range []int{top, list, item, sub, root, slotted} {
		wantNone(t, "what stands somewhere", house(), act(api.Free, hand, 0, 0, 0), api.ErrTree)
	}
	onWhatIsNot(t, api.Free, 0, 0, 0)
	gone, _, _ := realm.Do(house(), act(api.Free, alone, 0, 0, 0))
	wantNone(t, "freed twice", gone, act(api.Free, alone, 0, 0, 0), api.ErrGone)
}

func TestRemove(t *testing.T) {
	for hand, do := range map[int]func(r *api.Realm){
		list:    func(r *api.Realm) { r.S.Nodes[0].Kids = []int{2} },
		item:    func(r *api.Realm) { r.S.Nodes[0].Kids = []int{1} },
		sub:     func(r *api.Realm) { r.S.Nodes[2].Kids = nil },
		slotted: func(r *api.Realm) { r.S.Nodes[4].Kids = nil },
	} {
		want := with(func(r *api.Realm) {
			do(r)
			r.S.Nodes[hand].Parent = -1
		})
		wantDone(t, "removed", house(), act(api.Remove, hand, -7, 99, -1), want, 0)
	}
	for _, hand := range []int{top, root, alone} {
		wantNone(t, "nobody's child", house(), act(api.Remove, hand, 0, 0, 0), api.ErrTree)
	}
	onWhatIsNot(t, api.Remove, 0, 0, 0)
}

// TestGet: the Mark is told, and nothing changes; nor is it put to what was Told.
func TestGet(t *testing.T) {
	for hand, mark := range []int{0, 3, 7, 7, 0, 0, -5} {
		wantDone(t, "the mark", house(), act(api.Get, hand, -7, 99, -1), house(), mark)
	}
	for _, mark := range []int{-api.MaxValue, api.MaxValue} {
		r := with(func(r *api.Realm) { r.S.Nodes[0].Mark = mark })
		wantDone(t, "the farthest mark", r, act(api.Get, top, 0, 0, 0), r, mark)
	}
	full := with(func(r *api.Realm) { r.Told = make([]int, 4800) })
	wantDone(t, "told as much as may be", full, act(api.Get, item, 0, 0, 0), full, 7)
	onWhatIsNot(t, api.Get, 0, 0, 0)
}

func TestSet(t *testing.T) {
	for hand := range 7 {
		for _, mark := range []int{-api.MaxValue, -1, 0, 1, 7, api.MaxValue} {
			want := with(func(r *api.Realm) { r.S.Nodes[hand].Mark = mark })
			wantDone(t, "set", house(), act(api.Set, hand, -7, 99, mark), want, 0)
		}
		for _, mark := range noValues {
			wantNone(t, "no mark", house(), act(api.Set, hand, 0, 0, mark), api.ErrRange)
		}
	}
	for _, mark := range append([]int{0, 1}, noValues...) {
		onWhatIsNot(t, api.Set, 0, 0, mark)
	}
}

// TestTake: of any cell that is there, be it led to or not; that there is none is told ahead of what the hand holds.
func TestTake(t *testing.T) {
	for hand := range 7 {
		for cell, mark := range []int{2, -api.MaxValue, 9} {
			want := with(func(r *api.Realm) { r.S.Nodes[hand].Mark = mark })
			wantDone(t, "taken", house(), act(api.Take, hand, -7, 99, cell), want, 0)
		}
	}
	for hand := range api.MaxHands {
		for _, cell := range []int{math.MinInt, -1, 3, 4, math.MaxInt} {
			wantNone(t, "no cell", house(), act(api.Take, hand, 0, 0, cell), api.ErrWho)
		}
		empty := with(func(r *api.Realm) { r.In = api.Graph{} })
		wantNone(t, "no cells", empty, act(api.Take, hand, 0, 0, 0), api.ErrWho)
	}
	for cell := range 3 {
		onWhatIsNot(t, api.Take, 0, 0, cell)
	}
}

// TestCount: of those under it alone, not of itself, and not of roots.
func TestCount(t *testing.T) {
	for _, c := range []struct{ hand, tag, mark, want int }{
		{top, 5, 7, 2},
		{top, 5, 3, 1},
		{top, 5, api.Whatever, 3},
		{top, api.Whatever, 7, 2},
		{top, api.Whatever, api.Whatever, 3},
		{top, 4, api.Whatever, 0},
		{top, 5, -api.MaxValue, 0},
		{top, api.MaxTag, api.MaxValue, 0},
		{top, api.FirstSlot + 7, 0, 0},
		{item, 5, 7, 1},
		{sub, 5, 7, 0},
		{root, api.FirstSlot + 7, 0, 1},
		{root, api.Whatever, 1, 0},
		{alone, api.Whatever, api.Whatever, 0},
	} {
		wantDone(t, "counted", house(), act(api.Count, c.hand, c.tag, 99, c.mark), house(), c.want)
	}
	for _, tag := range []int{math.MinInt, api.Whatever - 1, -1, api.MaxTag + 1, math.MaxInt} {
		wantNone(t, "no tag", house(), act(api.Count, top, tag, 0, 0), api.ErrRange)
		onWhatIsNot(t, api.Count, tag, 0, 0)
	}
	for _, mark := range []int{math.MinInt, api.Whatever - 1, api.MaxValue + 1, math.MaxInt} {
		wantNone(t, "no mark", house(), act(api.Count, top, 5, 0, mark), api.ErrRange)
	}
	onWhatIsNot(t, api.Count, 5, 0, 7)
}

// TestFlat: what is shown: of a host its root's kids, and in its slots what is given to them.
func TestFlat(t *testing.T) {
	for hand, want := range []int{4, 1, 2, 1, 4, 3, 1} {
		wantDone(t, "shown", house(), act(api.Flat, hand, -7, 99, -1), house(), want)
	}
	r := with(func(r *api.Realm) { r.S.Nodes[2].Mark = 8 })
	wantDone(t, "shown, and nothing is given", r, act(api.Flat, top, 0, 0, 0), r, 2)
	onWhatIsNot(t, api.Flat, 0, 0, 0)
}

func TestInsert(t *testing.T) {
	for _, c := range []struct {
		a, b, c int
		do      func(r *api.Realm)
	}{
		{top, alone, -1, func(r *api.Realm) { r.S.Nodes[0].Kids, r.S.Nodes[6].Parent = []int{1, 2, 6}, 0 }},
		{top, alone, math.MinInt, func(r *api.Realm) { r.S.Nodes[0].Kids, r.S.Nodes[6].Parent = []int{1, 2, 6}, 0 }},
		{top, alone, list, func(r *api.Realm) { r.S.Nodes[0].Kids, r.S.Nodes[6].Parent = []int{6, 1, 2}, 0 }},
		{top, alone, item, func(r *api.Realm) { r.S.Nodes[0].Kids, r.S.Nodes[6].Parent = []int{1, 6, 2}, 0 }},
		{top, item, list, func(r *api.Realm) { r.S.Nodes[0].Kids = []int{2, 1} }},
		{top, list, -1, func(r *api.Realm) { r.S.Nodes[0].Kids = []int{2, 1} }},
		{top, item, item, func(r *api.Realm) {}},
		{root, sub, slotted, func(r *api.Realm) {
			r.S.Nodes[2].Kids, r.S.Nodes[4].Kids, r.S.Nodes[3].Parent = nil, []int{3, 5}, 4
		}},
		{alone, top, -1, func(r *api.Realm) { r.S.Nodes[6].Kids, r.S.Nodes[0].Parent = []int{0}, 6 }},
	} {
		wantDone(t, "inserted", house(), act(api.Insert, c.a, c.b, c.c, -7), with(c.do), 0)
	}
	for _, c := range [][3]int{
		{top, top, -1}, {top, root, -1}, {alone, root, -1}, // itself; roots
		{sub, item, -1}, {slotted, top, -1}, {slotted, top, slotted}, // under itself, by a root too
		{top, alone, sub}, {top, alone, top}, {alone, list, list}, {top, alone, alone}, // ahead of what isn't there
	} {
		wantNone(t, "no tree", house(), act(api.Insert, c[0], c[1], c[2], 0), api.ErrTree)
	}
}

// TestInsertHands: no hand B, then no hand C, then what A, B and C hold, in this order.
func TestInsertHands(t *testing.T) {
	for _, none := range noHands {
		for _, a := range []int{top, spent, freed, blank} {
			for _, c := range append([]int{list, spent, blank}, noHands...) {
				wantNone(t, "no hand B", house(), act(api.Insert, a, none, c, 0), api.ErrWho)
			}
			for _, b := range []int{alone, top, spent, freed, blank} {
				if none >= 0 {
					wantNone(t, "no hand C", house(), act(api.Insert, a, b, none, 0), api.ErrWho)
				}
			}
		}
	}
	hands := map[int]api.Errno{top: api.OK, alone: api.OK, spent: api.ErrGone, freed: api.ErrGone, blank: api.ErrWho}
	for a, wantA := range hands {
		for b, wantB := range hands {
			for c, wantC := range hands {
				want := wantC
				if wantB != api.OK {
					want = wantB
				}
				if wantA != api.OK {
					want = wantA
				}
				if want != api.OK {
					wantNone(t, "what hands hold", house(), act(api.Insert, a, b, c, 0), want)
				}
			}
		}
	}
}

// TestHost: closed by the number 1 alone; hand B may be any, A too, and what it held stays.
func TestHost(t *testing.T) {
	for _, n := range []int{math.MinInt, -1, 0, 1, 2, math.MaxInt} {
		for _, host := range []int{list, item, sub, root, slotted, alone} {
			for hand := range api.MaxHands {
				want := with(func(r *api.Realm) {
					r.S.Nodes[7] = api.Node{Used: true, Uses: 5, Parent: -1, Host: host, Closed: n == 1}
					r.Hands[hand] = api.Hand{Place: 7, Use: 5}
				})
				wantDone(t, "hosted", house(), act(api.Host, host, hand, 99, n), want, 0)
			}
		}
	}
	full := with(func(r *api.Realm) { r.S.Nodes = r.S.Nodes[:7] })
	wantNone(t, "no place", full, act(api.Host, alone, 9, 0, 1), api.ErrMany)
	wantNone(t, "a host already", house(), act(api.Host, top, 9, 0, 1), api.ErrTree)
	wantNone(t, "a host already, no place", full, act(api.Host, top, 9, 0, 1), api.ErrTree)
	onWhatIsNot(t, api.Host, 9, 0, 1)
	for _, none := range noHands {
		for a := range api.MaxHands {
			wantNone(t, "no hand B", house(), act(api.Host, a, none, 0, 1), api.ErrWho)
			wantNone(t, "no hand B, no place", full, act(api.Host, a, none, 0, 1), api.ErrWho)
		}
	}
}

// TestUp: hand B may be any, A too; from a root no way leads to its host.
func TestUp(t *testing.T) {
	for child, parent := range map[int]int{list: top, item: top, sub: item, slotted: root} {
		for hand := range api.MaxHands {
			want := with(func(r *api.Realm) { r.Hands[hand] = r.Hands[parent] })
			wantDone(t, "up", house(), act(api.Up, child, hand, 99, -1), want, 0)
		}
	}
	for _, hand := range []int{top, root, alone} {
		wantNone(t, "nobody's child", house(), act(api.Up, hand, 9, 0, 0), api.ErrTree)
	}
	onWhatIsNot(t, api.Up, 9, 0, 0)
	for _, none := range noHands {
		for a := range api.MaxHands {
			wantNone(t, "no hand B", house(), act(api.Up, a, none, 0, 0), api.ErrWho)
		}
	}
}
