package store

import (
	"slices"

	"glasshouse/api"
	"glasshouse/ground"
)

// Check answers what is wrong with a store. What is wrong with a node by itself is told ahead of what is wrong with how nodes stand.
func Check(s api.Store) api.Errno {
	if len(s.Nodes) > api.MaxNodes {
		return api.ErrMany
	}
	for _, n := range s.Nodes {
		if e := checkNode(n, len(s.Nodes)); e != api.OK {
			return e
		}
	}
	if !kidsFit(s.Nodes) || !hostsFit(s.Nodes) || someUnderItself(s) {
		return api.ErrTree
	}
	return api.OK
}

// checkNode answers what is wrong with a node by itself, in a store of so many places.
func checkNode(n api.Node, places int) api.Errno {
	if !inRange(n) {
		return api.ErrRange
	}
	if !namesPlaces(n, places) {
		return api.ErrWho
	}
	if !inForm(n) {
		return api.ErrForm
	}
	return api.OK
}

// inRange tells whether a node's numbers are ones that may be.
func inRange(n api.Node) bool {
	return ground.Within(n.Uses, 0, api.MaxUses) && ground.Within(n.Tag, 0, api.MaxTag) && ground.Within(n.Mark, -api.MaxValue, api.MaxValue)
}

// namesPlaces tells whether all that a node names is a place, or none.
func namesPlaces(n api.Node, places int) bool {
	wrong := func(place int) bool {
		return !ground.Within(place, ground.None, places-1)
	}
	return !wrong(n.Parent) && !wrong(n.Host) && !slices.ContainsFunc(n.Kids, wrong)
}

// inForm tells whether a node's fields go together.
func inForm(n api.Node) bool {
	if !n.Used {
		return sameNode(n, unused(n.Uses))
	}
	if n.Uses == 0 {
		return false
	}
	if n.Host == ground.None {
		return !n.Closed
	}
	return n.Parent == ground.None
}

// kidsFit tells whether each node that has a Parent stands in its Kids once, and no other one stands in any.
func kidsFit(nodes []api.Node) bool {
	stands := make([]int, len(nodes))
	for place, n := range nodes {
		for _, kid := range n.Kids {
			if kid == ground.None || !nodes[kid].Used || nodes[kid].Parent != place {
				return false
			}
			stands[kid]++
		}
	}
	for place, n := range nodes {
		if stands[place] > 1 || n.Parent != ground.None && stands[place] == 0 {
			return false
		}
	}
	return true
}

// hostsFit tells whether each Host is in use, and the Host of one node alone.
func hostsFit(nodes []api.Node) bool {
	roots := make([]int, len(nodes))
	for _, n := range nodes {
		if n.Host == ground.None {
			continue
		}
		roots[n.Host]++
		if !nodes[n.Host].Used || roots[n.Host] > 1 {
			return false
		}
	}
	return true
}

// someUnderItself tells whether some node stands, at some step, under itself.
func someUnderItself(s api.Store) bool {
	for place := range s.Nodes {
		if ground.Under(s, place, place) {
			return true
		}
	}
	return false
}
