// Package store: nodes in places, and hands that hold them; see doc/01-store.md.
package store

import (
	"slices"

	"glasshouse/api"
)

// none is the Parent of what is nobody's child, and the Host of what is no root.
const none = -1

// New answers a store of so many places, none of them in use.
func New(places int) (api.Store, api.Errno) {
	if !within(places, 0, api.MaxNodes) {
		return api.Store{}, api.ErrRange
	}
	nodes := make([]api.Node, places)
	for k := range nodes {
		nodes[k] = unused(0)
	}
	return api.Store{Nodes: nodes}, api.OK
}

// Same tells whether all fields of two stores are alike, be the stores right or wrong.
func Same(a, b api.Store) bool {
	return slices.EqualFunc(a.Nodes, b.Nodes, sameNode)
}

// Make puts a node into the first place that can take one, and answers a hand on it.
func Make(s api.Store, tag int) (api.Store, api.Hand, api.Errno) {
	if !within(tag, 0, api.MaxTag) {
		return api.Store{}, api.Hand{}, api.ErrRange
	}
	// A place whose Uses can't grow any more is left alone for good: an old hand would hold the new node.
	place := slices.IndexFunc(s.Nodes, func(n api.Node) bool {
		return !n.Used && n.Uses < api.MaxUses
	})
	if place < 0 {
		return api.Store{}, api.Hand{}, api.ErrMany
	}
	made := copyStore(s)
	node := &made.Nodes[place]
	node.Used = true
	node.Uses++
	node.Tag = tag
	return made, api.Hand{Place: place, Use: node.Uses}, api.OK
}

// Holds answers what keeps a hand from holding a node. The store may be any, a wrong one too.
func Holds(s api.Store, h api.Hand) api.Errno {
	if !within(h.Place, 0, len(s.Nodes)-1) {
		return api.ErrWho
	}
	node := s.Nodes[h.Place]
	if !within(h.Use, 1, node.Uses) {
		return api.ErrWho
	}
	if !node.Used || node.Uses != h.Use {
		return api.ErrGone
	}
	return api.OK
}

// Find answers the node that a hand holds.
func Find(s api.Store, h api.Hand) (api.Node, api.Errno) {
	if e := Holds(s, h); e != api.OK {
		return api.Node{}, e
	}
	return copyNode(s.Nodes[h.Place]), api.OK
}

// Free takes the node that a hand holds from its place, if nothing else hangs on it.
func Free(s api.Store, h api.Hand) (api.Store, api.Errno) {
	node, e := Find(s, h)
	if e != api.OK {
		return api.Store{}, e
	}
	if rightUnder(node) != none || len(node.Kids) > 0 || isHost(s, h.Place) {
		return api.Store{}, api.ErrTree
	}
	freed := copyStore(s)
	// The Uses stay, so that no hand on this node holds the next one.
	freed.Nodes[h.Place] = unused(node.Uses)
	return freed, api.OK
}

// unused is a place that nothing is in, after so many uses.
func unused(uses int) api.Node {
	return api.Node{Uses: uses, Parent: none, Host: none}
}

// rightUnder is the place of what a node stands right under.
func rightUnder(n api.Node) int {
	if n.Host != none {
		return n.Host
	}
	return n.Parent
}

// isHost tells whether the node at a place is the Host of some node.
func isHost(s api.Store, place int) bool {
	return slices.ContainsFunc(s.Nodes, func(n api.Node) bool {
		return n.Host == place
	})
}

// sameNode tells whether all fields of two nodes are alike; a list of nothing is like any other one.
func sameNode(a, b api.Node) bool {
	return a.Used == b.Used && a.Uses == b.Uses && a.Tag == b.Tag && a.Mark == b.Mark &&
		a.Parent == b.Parent && slices.Equal(a.Kids, b.Kids) && a.Host == b.Host && a.Closed == b.Closed
}

// copyStore answers a store of new memory throughout.
func copyStore(s api.Store) api.Store {
	nodes := make([]api.Node, len(s.Nodes))
	for k, n := range s.Nodes {
		nodes[k] = copyNode(n)
	}
	return api.Store{Nodes: nodes}
}

// copyNode answers a node whose Kids are new memory.
func copyNode(n api.Node) api.Node {
	kids := make([]int, len(n.Kids))
	copy(kids, n.Kids)
	n.Kids = kids
	return n
}

// within tells whether x is from low to high.
func within(x, low, high int) bool {
	return low <= x && x <= high
}
