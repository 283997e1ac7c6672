package realm_test

import (
	"math"
	"reflect"
	"slices"
	"testing"

	"glasshouse/api"
	"glasshouse/realm"
)

// thing is a node of the model: one that is told apart by what it is, not by where it lies.
type thing struct {
	tag, mark  int
	place, use int
	parent     *thing
	kids       []*thing
	host, root *thing
	closed     bool
	gone       bool
}

// grip is a hand of the model: on a thing, which may be gone; nil: it never held anything.
type grip struct {
	on   *thing
	hand api.Hand
}

// model is a realm of things: of each place what is there, and how often it was used.
type model struct {
	there []*thing
	uses  []int
	grips [16]grip
	in    api.Graph
	told  []int
}

// modelOf is the model of a right realm.
func modelOf(r api.Realm) *model {
	m := &model{there: make([]*thing, len(r.S.Nodes)), uses: make([]int, len(r.S.Nodes)), in: r.In, told: r.Told}
	for k, n := range r.S.Nodes {
		m.uses[k] = n.Uses
		if n.Used {
			m.there[k] = &thing{tag: n.Tag, mark: n.Mark, place: k, use: n.Uses, closed: n.Closed}
		}
	}
	for k, n := range r.S.Nodes {
		for _, kid := range n.Kids {
			m.there[k].kids = append(m.there[k].kids, m.there[kid])
			m.there[kid].parent = m.there[k]
		}
		if n.Host >= 0 {
			m.there[k].host, m.there[n.Host].root = m.there[n.Host], m.there[k]
		}
	}
	for k, h := range r.Hands {
		m.grips[k].hand = h
		if h.Place < 0 || h.Place >= len(m.uses) || h.Use < 1 || h.Use > m.uses[h.Place] {
			continue
		}
		m.grips[k].on = m.there[h.Place]
		if m.grips[k].on == nil || h.Use < m.uses[h.Place] {
			m.grips[k].on = &thing{gone: true}
		}
	}
	return m
}

// realm is what the model stands for.
func (m *model) realm() api.Realm {
	placeOf := func(x *thing) int {
		if x == nil {
			return -1
		}
		return x.place
	}
	r := api.Realm{In: m.in, Told: m.told}
	for k, x := range m.there {
		n := api.Node{Uses: m.uses[k], Parent: -1, Host: -1}
		if x != nil {
			n = api.Node{Used: true, Uses: x.use, Tag: x.tag, Mark: x.mark, Parent: placeOf(x.parent), Host: placeOf(x.host), Closed: x.closed}
			for _, kid := range x.kids {
				n.Kids = append(n.Kids, kid.place)
			}
		}
		r.S.Nodes = append(r.S.Nodes, n)
	}
	for _, g := range m.grips {
		r.Hands = append(r.Hands, g.hand)
	}
	return r
}

// holds is what keeps a hand from holding a thing.
func (m *model) holds(k int) api.Errno {
	switch x := m.grips[k].on; {
	case x == nil:
		return api.ErrWho
	case x.gone:
		return api.ErrGone
	}
	return api.OK
}

// grow puts a new thing into the first place that nothing is in, and lets a hand hold it.
func (m *model) grow(hand, tag int) (*thing, api.Errno) {
	k := slices.Index(m.there, nil)
	if k < 0 {
		return nil, api.ErrMany
	}
	m.uses[k]++
	x := &thing{tag: tag, place: k, use: m.uses[k]}
	m.there[k] = x
	m.grips[hand] = grip{x, api.Hand{Place: k, Use: x.use}}
	return x, api.OK
}

// part takes a thing from its parent.
func part(x *thing) {
	if x.parent != nil {
		at := slices.Index(x.parent.kids, x)
		x.parent.kids = slices.Concat(x.parent.kids[:at], x.parent.kids[at+1:])
		x.parent = nil
	}
}

// over tells whether x is y, or above it, by parents and hosts.
func over(x, y *thing) bool {
	return y != nil && (x == y || over(x, y.parent) || over(x, y.host))
}

// under is all things under x by kids, in order.
func under(x *thing) []*thing {
	var l []*thing
	for _, kid := range x.kids {
		l = append(append(l, kid), under(kid)...)
	}
	return l
}

// shown is how many things are shown at x and under it.
func shown(x *thing) int {
	list := x.kids
	if given := givenTo(x); len(given) > 0 {
		list = given
	}
	if x.root != nil {
		list = x.root.kids
	}
	count := 1
	for _, y := range list {
		count += shown(y)
	}
	return count
}

// givenTo is what is given to x, if that is the first slot of its number in its root.
func givenTo(x *thing) []*thing {
	top := x
	for top.parent != nil {
		top = top.parent
	}
	if x.tag < 90 || top.host == nil {
		return nil
	}
	inRoot := append([]*thing{top}, under(top)...)
	if first := slices.IndexFunc(inRoot, func(y *thing) bool { return y.tag == x.tag }); inRoot[first] != x {
		return nil
	}
	return slices.DeleteFunc(slices.Clone(top.host.kids), func(y *thing) bool { return y.mark != x.tag-90 })
}

// given tells whether something is given to what is in the root of x.
func given(x *thing) bool {
	return x.root != nil && slices.ContainsFunc(under(x.root), func(y *thing) bool { return len(givenTo(y)) > 0 })
}

// isHand tells whether there is a hand k.
func isHand(k int) bool { return 0 <= k && k < 16 }

// do is what the chapter says of an act.
func (m *model) do(x api.Act) (int, api.Errno) {
	if !isHand(x.A) {
		return 0, api.ErrWho
	}
	switch x.Kind {
	case 1:
		if x.N < 0 || x.N > 99 {
			return 0, api.ErrRange
		}
		_, e := m.grow(x.A, x.N)
		return 0, e
	case 11:
		if x.N < 0 || x.N >= len(m.in.Cells) {
			return 0, api.ErrWho
		}
	case 3, 7, 8:
		if !isHand(x.B) || x.Kind == 3 && x.C >= 0 && !isHand(x.C) {
			return 0, api.ErrWho
		}
	case 2, 4, 5, 6, 14, 15:
	default:
		return 0, api.ErrForm
	}
	if e := m.holds(x.A); e != api.OK {
		return 0, e
	}
	return m.doAt(m.grips[x.A].on, x)
}

// doAt is what the chapter says of an act at a thing that is there, by hands that are there.
func (m *model) doAt(a *thing, x api.Act) (int, api.Errno) {
	switch x.Kind {
	case 2:
		if a.parent != nil || a.host != nil || a.root != nil || len(a.kids) > 0 {
			return 0, api.ErrTree
		}
		a.gone, m.there[a.place] = true, nil
	case 3:
		return 0, m.insert(a, x)
	case 4, 8:
		if a.parent == nil {
			return 0, api.ErrTree
		}
		if x.Kind == 4 {
			part(a)
			break
		}
		m.grips[x.B] = grip{a.parent, api.Hand{Place: a.parent.place, Use: a.parent.use}}
	case 5:
		if x.N < -1000000 || x.N > 1000000 {
			return 0, api.ErrRange
		}
		a.mark = x.N
	case 6:
		return a.mark, api.OK
	case 7:
		if a.root != nil {
			return 0, api.ErrTree
		}
		root, e := m.grow(x.B, 0)
		if e != api.OK {
			return 0, e
		}
		root.host, root.closed, a.root = a, x.N == 1, root
	case 11:
		a.mark = m.in.Cells[x.N].N
	case 14:
		return countOf(a, x.B, x.N)
	case 15:
		return shown(a), api.OK
	}
	return 0, api.OK
}

// countOf is how many things under one have this tag and mark.
func countOf(a *thing, tag, mark int) (int, api.Errno) {
	const any = -1000001
	if tag != any && (tag < 0 || tag > 99) || mark != any && (mark < -1000000 || mark > 1000000) {
		return 0, api.ErrRange
	}
	count := 0
	for _, y := range under(a) {
		if (tag == any || tag == y.tag) && (mark == any || mark == y.mark) {
			count++
		}
	}
	return count, api.OK
}

// insert is what the chapter says of an Insert into a thing.
func (m *model) insert(a *thing, x api.Act) api.Errno {
	if e := m.holds(x.B); e != api.OK {
		return e
	}
	if x.C >= 0 && m.holds(x.C) != api.OK {
		return m.holds(x.C)
	}
	b := m.grips[x.B].on
	if b.host != nil || over(b, a) {
		return api.ErrTree
	}
	if x.C < 0 {
		part(b)
		a.kids, b.parent = append(a.kids, b), a
		return api.OK
	}
	c := m.grips[x.C].on
	if c.parent != a {
		return api.ErrTree
	}
	if c != b {
		part(b)
		a.kids, b.parent = slices.Insert(a.kids, slices.Index(a.kids, c), b), a
	}
	return api.OK
}

// TestAllActs: of the house, all acts of a few numbers each, right and wrong ones, against the chapter's words.
func TestAllActs(t *testing.T) {
	hands := []int{-1, top, list, item, sub, root, slotted, alone, spent, freed, blank, 15, 16}
	numbers := []int{api.Whatever - 1, api.Whatever, -api.MaxValue, -1, 0, 1, 2, 3, 5, 7, api.FirstSlot + 7, api.MaxTag, api.MaxTag + 1, api.MaxValue, api.MaxValue + 1}
	tally := map[[2]int]int{}
	for kind := -1; kind <= 23; kind++ {
		bs, cs, ns := hands, []int{0}, numbers
		switch kind {
		case api.Insert:
			cs, ns = hands, []int{0}
		case api.Count:
			bs = numbers
		}
		for _, a := range hands {
			for _, b := range bs {
				for _, c := range cs {
					for _, n := range ns {
						e := holdAct(t, house(), act(kind, a, b, c, n))
						tally[[2]int{kind, int(e)}]++
					}
				}
			}
		}
	}
	wantTally(t, tally, 1)
}

// holdAct: an act does to a realm what the chapter says.
func holdAct(t *testing.T, r api.Realm, x api.Act) api.Errno {
	t.Helper()
	m := modelOf(r)
	wantTold, wantE := m.do(x)
	got, told, e := realm.Do(r, x)
	if e != wantE || told != wantTold {
		t.Fatalf("%+v: %+v: told %d, errno %d, want %d, errno %d", r, x, told, e, wantTold, wantE)
	}
	if e != api.OK && !isZero(got) || e == api.OK && (!realm.Same(got, m.realm()) || realm.Check(got) != api.OK) {
		t.Fatalf("%+v: %+v: %+v, want %+v, errno %d", r, x, got, m.realm(), e)
	}
	return e
}

// wantTally: each kind had each of its errors at least so often.
func wantTally(t *testing.T, tally map[[2]int]int, least int) {
	t.Helper()
	for kind, errors := range map[int][]api.Errno{
		api.Make:   {api.OK, api.ErrWho, api.ErrRange},
		api.Free:   {api.OK, api.ErrWho, api.ErrGone, api.ErrTree},
		api.Insert: {api.OK, api.ErrWho, api.ErrGone, api.ErrTree},
		api.Remove: {api.OK, api.ErrWho, api.ErrGone, api.ErrTree},
		api.Set:    {api.OK, api.ErrWho, api.ErrGone, api.ErrRange},
		api.Get:    {api.OK, api.ErrWho, api.ErrGone},
		api.Host:   {api.OK, api.ErrWho, api.ErrGone, api.ErrTree},
		api.Up:     {api.OK, api.ErrWho, api.ErrGone, api.ErrTree},
		api.Take:   {api.OK, api.ErrWho, api.ErrGone},
		api.Count:  {api.OK, api.ErrWho, api.ErrGone, api.ErrRange},
		api.Flat:   {api.OK, api.ErrWho, api.ErrGone},
		api.Tell:   {api.ErrForm},
	} {
		for _, e := range errors {
			if tally[[2]int{kind, int(e)}] < least {
				t.Errorf("kind %d, errno %d: %d times: too few", kind, e, tally[[2]int{kind, int(e)}])
			}
		}
	}
}

// dice is a row of numbers that hangs on its seed alone.
type dice struct{ seed int }

// next is another number from 0 to below, at each step.
func (d *dice) next(below int) int {
	d.seed = d.seed * 48271 % 2147483647
	return d.seed / 7 % below
}

// act is one of any kind, mostly one that realms do, of hands and numbers that mostly may be.
func (d *dice) act() api.Act {
	x := act(kinds[d.next(len(kinds))], d.next(10), d.next(10), d.next(11)-1, d.next(6))
	switch d.next(16) {
	case 0, 1, 2:
		x.Kind, x.C = api.Insert, -1
	case 3:
		x.Kind, x.N = api.Make, api.FirstSlot+d.next(3)
	case 4:
		x.Kind = api.Flat
	case 5:
		x.Kind = otherKinds[d.next(len(otherKinds))]
	case 6:
		x.A = noHands[d.next(len(noHands))]
	case 7:
		x.B = noHands[d.next(len(noHands))]
	case 8:
		x.C, x.N = noHands[d.next(len(noHands))], noValues[d.next(len(noValues))]
	case 9:
		x.N = api.Whatever
	}
	return x
}

// TestLongRuns: whatever acts come one after the other: all is as with things that hands hold for good: who holds one holds that one, or none, and never another one in its place. What has an error changes nothing.
func TestLongRuns(t *testing.T) {
	tally, slots := map[[2]int]int{}, 0
	for seed := range 60 {
		d := dice{seed + 1}
		r, e := realm.New(3 + seed%10)
		if e != api.OK {
			t.Fatal(e)
		}
		r.In = api.Graph{Cells: []api.Cell{{N: 1}, {N: 2, Kids: []int{0}}, {N: 0}}}
		m := modelOf(r)
		for n := range 1500 {
			x := d.act()
			was := m.realm()
			wantTold, wantE := m.do(x)
			got, told, e := realm.Do(r, x)
			if e != wantE || told != wantTold || e != api.OK && !isZero(got) {
				t.Fatalf("seed %d, step %d: %+v: %+v: told %d, errno %d, want %d, errno %d", seed, n, r, x, told, e, wantTold, wantE)
			}
			if e == api.OK {
				r = got
			}
			if !realm.Same(r, m.realm()) || e != api.OK && !realm.Same(r, was) || realm.Check(r) != api.OK {
				t.Fatalf("seed %d, step %d: %+v: %+v, want %+v", seed, n, x, r, m.realm())
			}
			tally[[2]int{x.Kind, int(e)}]++
			if x.Kind == api.Flat && e == api.OK && given(m.grips[x.A].on) {
				slots++
			}
		}
	}
	if slots < 20 {
		t.Errorf("%d times something given was shown: too few", slots)
	}
	wantTally(t, tally, 20)
	for _, kind := range []int{api.Make, api.Host} {
		if tally[[2]int{kind, int(api.ErrMany)}] < 20 {
			t.Errorf("kind %d: no place: too few", kind)
		}
	}
}

// roomy is the house in memory with spare room behind each list, and all of that memory.
func roomy() (r api.Realm, room func() []any) {
	var all []any
	numbers := func(list []int) []int {
		long := append(slices.Clone(list), 70, 71)
		all = append(all, long)
		return long[:len(list)]
	}
	plain := house()
	nodes := append(plain.S.Nodes, api.Node{Uses: 72}, api.Node{Uses: 73})
	for k := range plain.S.Nodes {
		nodes[k].Kids = numbers(nodes[k].Kids)
	}
	cells := append(plain.In.Cells, api.Cell{N: 74}, api.Cell{N: 75})
	for k := range plain.In.Cells {
		cells[k].Kids = numbers(cells[k].Kids)
	}
	hands := append(plain.Hands, api.Hand{Place: 76}, api.Hand{Place: 77})
	r = api.Realm{S: api.Store{Nodes: nodes[:9]}, Hands: hands[:16], In: api.Graph{Cells: cells[:3]}, Told: numbers(plain.Told)}
	all = append(all, nodes, cells, hands)
	return r, func() []any { return all }
}

// okActs is one act of each kind, and of Insert some, that the house does.
func okActs() []api.Act {
	return []api.Act{
		act(api.Make, 9, 0, 0, 1), act(api.Free, alone, 0, 0, 0), act(api.Remove, item, 0, 0, 0),
		act(api.Insert, top, alone, -1, 0), act(api.Insert, top, alone, item, 0), act(api.Insert, top, item, list, 0), act(api.Insert, top, list, list, 0),
		act(api.Set, top, 0, 0, 4), act(api.Get, item, 0, 0, 0), act(api.Take, top, 0, 0, 2),
		act(api.Host, alone, 9, 0, 1), act(api.Up, sub, 9, 0, 0), act(api.Count, top, 5, 0, 7), act(api.Flat, top, 0, 0, 0),
	}
}

// spoil writes to all memory of a realm, the spare room, too, each list its own number, and tells whether each list kept its own.
func spoil(r api.Realm) bool {
	lists := [][]int{r.Told[:cap(r.Told)]}
	for _, n := range r.S.Nodes[:cap(r.S.Nodes)] {
		lists = append(lists, n.Kids[:cap(n.Kids)])
	}
	for _, c := range r.In.Cells[:cap(r.In.Cells)] {
		lists = append(lists, c.Kids[:cap(c.Kids)])
	}
	for n, list := range lists {
		for k := range list {
			list[k] = 1000 + n
		}
	}
	whole := true
	for n, list := range lists {
		whole = whole && !slices.ContainsFunc(list, func(x int) bool { return x != 1000+n })
	}
	clear(r.S.Nodes[:cap(r.S.Nodes)])
	clear(r.In.Cells[:cap(r.In.Cells)])
	clear(r.Hands[:cap(r.Hands)])
	return whole
}

// TestOnlyRead: what was handed in stays as it was, and the spare room behind it, whatever is done to the answers; and no two lists of numbers of an answer share any memory.
func TestOnlyRead(t *testing.T) {
	r, room := roomy()
	_, want := roomy()
	for _, x := range okActs() {
		plain, _, _ := realm.Do(house(), x)
		got, _, e := realm.Do(r, x)
		if e != api.OK || !realm.Same(got, plain) {
			t.Errorf("%+v: %+v, errno %d, want %+v", x, got, e, plain)
		}
		if !spoil(got) {
			t.Errorf("%+v: two lists share memory", x)
		}
	}
	realm.Check(r)
	realm.Same(r, r)
	if !reflect.DeepEqual(room(), want()) {
		t.Errorf("what was handed in is %+v, want %+v", room(), want())
	}
}

// TestSharedLists: lists that were handed in as one are one each in the answer.
func TestSharedLists(t *testing.T) {
	one := []int{1, 2}
	shared := with(func(r *api.Realm) {
		r.S.Nodes[0].Kids, r.In.Cells[0].Kids, r.In.Cells[2].Kids, r.Told = one, one, one, one
	})
	for _, x := range okActs() {
		got, _, e := realm.Do(shared, x)
		if e != api.OK || !spoil(got) || !slices.Equal(one, []int{1, 2}) {
			t.Errorf("%+v: shared memory, errno %d", x, e)
		}
	}
	a, _ := realm.New(2)
	b, _ := realm.New(2)
	a.Hands[0].Use, a.S.Nodes[0].Uses = 5, 5
	if b.Hands[0].Use != 0 || b.S.Nodes[0].Uses != 0 {
		t.Error("two new realms share memory")
	}
}

// TestWild: no call panics, and each ends, whatever it is given; what Check says, Do says; the same call answers the same.
func TestWild(t *testing.T) {
	wild := []int{math.MinInt, -1, 0, 1, 16, math.MaxInt}
	realms := []api.Realm{house(), {}}
	for _, c := range wrongRealms() {
		realms = append(realms, c.r)
	}
	for _, a := range wild {
		for _, b := range wild {
			n := api.Node{Used: true, Uses: a, Tag: b, Mark: a, Parent: b, Kids: []int{a, b}, Host: b}
			g := api.Graph{Cells: []api.Cell{{N: a, Kids: []int{b}}}}
			realms = append(realms,
				api.Realm{S: api.Store{Nodes: []api.Node{n, n}}, Hands: make([]api.Hand, 16), In: g},
				api.Realm{Hands: make([]api.Hand, 16), In: g},
				with(func(r *api.Realm) { r.Hands = slices.Repeat([]api.Hand{{Place: a, Use: b}}, 16) }))
		}
	}
	for _, r := range realms {
		for kind := -1; kind <= 23; kind++ {
			for _, a := range wild {
				for _, b := range wild {
					holdWild(t, r, act(kind, a, b, b, a))
					holdWild(t, r, act(kind, 0, a, b, b))
				}
			}
		}
	}
}

// holdWild: an act of any numbers answers the same twice, nothing beside an error, a right realm without one, and what Check says.
func holdWild(t *testing.T, r api.Realm, x api.Act) {
	t.Helper()
	got, told, e := realm.Do(r, x)
	again, toldAgain, f := realm.Do(r, x)
	if e != f || told != toldAgain || !realm.Same(got, again) {
		t.Fatalf("%+v: %+v: %+v, told %d, errno %d; again %+v, told %d, errno %d", r, x, got, told, e, again, toldAgain, f)
	}
	wrong := realm.Check(r)
	if wrong != api.OK && e != wrong || e != api.OK && (told != 0 || !isZero(got)) || e == api.OK && realm.Check(got) != api.OK {
		t.Fatalf("%+v: %+v: %+v, told %d, errno %d", r, x, got, told, e)
	}
}
