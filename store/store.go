// Package store: nodes in places, and hands that hold them; see doc/01-store.md.
package store

import (
	"slices"

	"glasshouse/api"
	"glasshouse/ground"
)

// New answers a store of so many places, none of them in use.
func New(places int) (api.Store, api.Errno) {
	if !ground.Within(places, 0, api.MaxNodes) {
		return api.Store{}, api.ErrRange
	}
	nodes := make([]api.Node, places)
	for k := range nodes {
		nodes[k] = unused(0)
	}
	return api.Store{Nodes: nodes}, api.OK
}

// Same tells whether all fields of two stores are alike, be the stores right or wrong.
func Same(a, b api.Store) bool {
	return slices.EqualFunc(a.Nodes, b.Nodes, sameNode)
}

// Make puts a node into the first place that can take one, and answers a hand on it.
func Make(s api.Store, tag int) (api.Store, api.Hand, api.Errno) {
	if e := Check(s); e != api.OK {
		return api.Store{}, api.Hand{}, e
	}
	if !ground.Within(tag, 0, api.MaxTag) {
		return api.Store{}, api.Hand{}, api.ErrRange
	}
	// A place whose Uses can't grow any more is left alone for good: an old hand would hold the new node.
	place := slices.IndexFunc(s.Nodes, func(n api.Node) bool {
		return !n.Used && n.Uses < api.MaxUses
	})
	if place < 0 {
		return api.Store{}, api.Hand{}, api.ErrMany
	}
	made := ground.Copy(s)
	node := &made.Nodes[place]
	node.Used = true
	node.Uses++
	node.Tag = tag
	return made, api.Hand{Place: place, Use: node.Uses}, api.OK
}

// Holds answers what keeps a hand from holding a node. The store may be any, a wrong one too.
func Holds(s api.Store, h api.Hand) api.Errno {
	if !ground.IsPlace(s, h.Place) {
		return api.ErrWho
	}
	node := s.Nodes[h.Place]
	if !ground.Within(h.Use, 1, node.Uses) {
		return api.ErrWho
	}
	if !node.Used || node.Uses != h.Use {
		return api.ErrGone
	}
	return api.OK
}

// Find answers the node that a hand holds.
func Find(s api.Store, h api.Hand) (api.Node, api.Errno) {
	// Holds doesn't Check: of a wrong store it would answer as of a right one.
	if e := Check(s); e != api.OK {
		return api.Node{}, e
	}
	if e := Holds(s, h); e != api.OK {
		return api.Node{}, e
	}
	return ground.CopyNode(s.Nodes[h.Place]), api.OK
}

// Free takes the node that a hand holds from its place, if nothing else hangs on it.
func Free(s api.Store, h api.Hand) (api.Store, api.Errno) {
	node, e := Find(s, h)
	if e != api.OK {
		return api.Store{}, e
	}
	if ground.RightUnder(node) != ground.None || len(node.Kids) > 0 || ground.IsHost(s, h.Place) {
		return api.Store{}, api.ErrTree
	}
	freed := ground.Copy(s)
	// The Uses stay, so that no hand on this node holds the next one.
	freed.Nodes[h.Place] = unused(node.Uses)
	return freed, api.OK
}

// unused is a place that nothing is in, after so many uses.
func unused(uses int) api.Node {
	return api.Node{Uses: uses, Parent: ground.None, Host: ground.None}
}

// sameNode tells whether all fields of two nodes are alike; a list of nothing is like any other one.
func sameNode(a, b api.Node) bool {
	return a.Used == b.Used && a.Uses == b.Uses && a.Tag == b.Tag && a.Mark == b.Mark &&
		a.Parent == b.Parent && slices.Equal(a.Kids, b.Kids) && a.Host == b.Host && a.Closed == b.Closed
}
