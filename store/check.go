package store

import (
	"slices"

	"glasshouse/api"
)

// Check answers what is wrong with a store. What is wrong with a node by itself is told ahead of what is wrong with how nodes stand.
func Check(s api.Store) api.Errno {
	if len(s.Nodes) > api.MaxNodes {
		return api.ErrMany
	}
	for _, n := range s.Nodes {
		if e := checkNode(n, len(s.Nodes)); e != api.OK {
			return e
		}
	}
	if !kidsFit(s.Nodes) || !hostsFit(s.Nodes) || someUnderItself(s.Nodes) {
		return api.ErrTree
	}
	return api.OK
}

// checkNode answers what is wrong with a node by itself, in a store of so many places.
func checkNode(n api.Node, places int) api.Errno {
	if !inRange(n) {
		return api.ErrRange
	}
	if !namesPlaces(n, places) {
		return api.ErrWho
	}
	if !inForm(n) {
		return api.ErrForm
	}
	return api.OK
}

// inRange tells whether a node's numbers are ones that may be.
func inRange(n api.Node) bool {
	return within(n.Uses, 0, api.MaxUses) && within(n.Tag, 0, api.MaxTag) && within(n.Mark, -api.MaxValue, api.MaxValue)
}

// namesPlaces tells whether all that a node names is a place, or none.
func namesPlaces(n api.Node, places int) bool {
	wrong := func(place int) bool {
		return !within(place, none, places-1)
	}
	return !wrong(n.Parent) && !wrong(n.Host) && !slices.ContainsFunc(n.Kids, wrong)
}

// inForm tells whether a node's fields go together.
func inForm(n api.Node) bool {
	if !n.Used {
		return sameNode(n, unused(n.Uses))
	}
	if n.Uses == 0 {
		return false
	}
	if n.Host == none {
		return !n.Closed
	}
	return n.Parent == none
}

// kidsFit tells whether each node that has a Parent stands in its Kids once, and no other one stands in any.
func kidsFit(nodes []api.Node) bool {
	stands := make([]int, len(nodes))
	for place, n := range nodes {
		for _, kid := range n.Kids {
			if kid == none || !nodes[kid].Used || nodes[kid].Parent != place {
				return false
			}
			stands[kid]++
		}
	}
	for place, n := range nodes {
		if stands[place] > 1 || n.Parent != none && stands[place] == 0 {
			return false
		}
	}
	return true
}

// hostsFit tells whether each Host is in use, and the Host of one node alone.
func hostsFit(nodes []api.Node) bool {
	roots := make([]int, len(nodes))
	for _, n := range nodes {
		if n.Host == none {
			continue
		}
		roots[n.Host]++
		if !nodes[n.Host].Used || roots[n.Host] > 1 {
			return false
		}
	}
	return true
}

// someUnderItself tells whether some node stands, at some step, under itself.
func someUnderItself(nodes []api.Node) bool {
	for place := range nodes {
		found := false
		climb(nodes, place, func(at int) bool {
			found = at == place
			return !found
		})
		if found {
			return true
		}
	}
	return false
}

// climb visits what the node at a place stands right under, and so on, as long as visit says so. It takes no more steps than there are places: in a ring there is no last one.
func climb(nodes []api.Node, place int, visit func(at int) bool) {
	at := rightUnder(nodes[place])
	for range nodes {
		if at == none || !visit(at) {
			return
		}
		at = rightUnder(nodes[at])
	}
}
