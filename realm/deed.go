package realm

import (
	"glasshouse/api"
	"glasshouse/ground"
	"glasshouse/query"
	"glasshouse/shadow"
	"glasshouse/slot"
	"glasshouse/store"
	"glasshouse/tree"
)

// deed does an act to a right realm that has its hand A, and answers what it tells. On an error, the realm means nothing any more.
type deed func(r *api.Realm, x api.Act) (int, api.Errno)

// deedOf answers what acts of a kind do; nil, if realms do none of this kind.
func deedOf(kind int) deed {
	switch kind {
	case api.Make:
		return makeNode
	case api.Free:
		return change(store.Free)
	case api.Remove:
		return change(tree.Remove)
	case api.Get:
		return tellMark
	case api.Set:
		return mark(ownNumber)
	case api.Take:
		return mark(cellNumber)
	case api.Count:
		return tellHowMany(findTagged)
	case api.Flat:
		return tellHowMany(findShown)
	case api.Insert:
		return withHandB(insert)
	case api.Host:
		return withHandB(host)
	case api.Up:
		return withHandB(up)
	}
	return nil
}

// makeNode lets hand A hold a new node.
func makeNode(r *api.Realm, x api.Act) (int, api.Errno) {
	made, hand, e := store.Make(r.S, x.N)
	r.S, r.Hands[x.A] = made, hand
	return 0, e
}

// change answers the deed that makes another store by the node of hand A.
func change(by func(s api.Store, h api.Hand) (api.Store, api.Errno)) deed {
	return func(r *api.Realm, x api.Act) (int, api.Errno) {
		changed, e := by(r.S, r.Hands[x.A])
		r.S = changed
		return 0, e
	}
}

// tellMark tells the Mark of hand A's node.
func tellMark(r *api.Realm, x api.Act) (int, api.Errno) {
	node, e := store.Find(r.S, r.Hands[x.A])
	return node.Mark, e
}

// mark answers the deed that gives hand A's node, as its Mark, the number that is found.
func mark(number func(in api.Graph, n int) (int, api.Errno)) deed {
	return func(r *api.Realm, x api.Act) (int, api.Errno) {
		n, e := number(r.In, x.N)
		if e != api.OK {
			return 0, e
		}
		hand := r.Hands[x.A]
		if _, e := store.Find(r.S, hand); e != api.OK {
			return 0, e
		}
		if !ground.Within(n, -api.MaxValue, api.MaxValue) {
			return 0, api.ErrRange
		}
		r.S.Nodes[hand.Place].Mark = n
		return 0, api.OK
	}
}

// ownNumber answers the number of an act, whatever came.
func ownNumber(_ api.Graph, n int) (int, api.Errno) {
	return n, api.OK
}

// cellNumber answers the number of cell n of what came.
func cellNumber(in api.Graph, n int) (int, api.Errno) {
	if !ground.Within(n, 0, len(in.Cells)-1) {
		return 0, api.ErrWho
	}
	return in.Cells[n].N, api.OK
}

// tellHowMany answers the deed that tells how many nodes are found by hand A.
func tellHowMany(find func(s api.Store, h api.Hand, x api.Act) ([]int, api.Errno)) deed {
	return func(r *api.Realm, x api.Act) (int, api.Errno) {
		places, e := find(r.S, r.Hands[x.A], x)
		return len(places), e
	}
}

// findTagged answers the places under a node that have the act's Tag and Mark.
func findTagged(s api.Store, h api.Hand, x api.Act) ([]int, api.Errno) {
	return query.Find(s, h, []api.Test{{Tag: x.B, Mark: x.N}})
}

// findShown answers the places of a node and of what is shown under it.
func findShown(s api.Store, h api.Hand, _ api.Act) ([]int, api.Errno) {
	return slot.Flat(s, h)
}

// withHandB answers a deed that asks for hand B ahead of all else.
func withHandB(do deed) deed {
	return func(r *api.Realm, x api.Act) (int, api.Errno) {
		if !isHand(*r, x.B) {
			return 0, api.ErrWho
		}
		return do(r, x)
	}
}

// insert makes hand B's node a child of hand A's, ahead of hand C's, or last.
func insert(r *api.Realm, x api.Act) (int, api.Errno) {
	var ahead []api.Hand
	if x.C >= 0 {
		if !isHand(*r, x.C) {
			return 0, api.ErrWho
		}
		ahead = []api.Hand{r.Hands[x.C]}
	}
	inserted, e := tree.Insert(r.S, r.Hands[x.A], r.Hands[x.B], ahead)
	r.S = inserted
	return 0, e
}

// host makes a root for hand A's node, and lets hand B hold it.
func host(r *api.Realm, x api.Act) (int, api.Errno) {
	attached, root, e := shadow.Attach(r.S, r.Hands[x.A], x.N == 1)
	r.S, r.Hands[x.B] = attached, root
	return 0, e
}

// up lets hand B hold the Parent of hand A's node.
func up(r *api.Realm, x api.Act) (int, api.Errno) {
	node, e := store.Find(r.S, r.Hands[x.A])
	if e != api.OK {
		return 0, e
	}
	// A root has no Parent: this way nobody comes out of it to its Host.
	if node.Parent == ground.None {
		return 0, api.ErrTree
	}
	r.Hands[x.B] = api.Hand{Place: node.Parent, Use: r.S.Nodes[node.Parent].Uses}
	return 0, api.OK
}
