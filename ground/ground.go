// Package ground: what the layers share of nodes, places, graphs, ports, realms and numbers. It takes any of them, wrong ones too.
package ground

import (
	"slices"

	"glasshouse/api"
)

// None is the Parent of what is nobody's child, or in no frame, and the Host of what is no root.
const None = -1

// Within tells whether x is from low to high.
func Within(x, low, high int) bool {
	return low <= x && x <= high
}

// Copy answers a store of new memory throughout.
func Copy(s api.Store) api.Store {
	return api.Store{Nodes: CopyEach(s.Nodes, CopyNode)}
}

// CopyNode answers a node whose Kids are new memory.
func CopyNode(n api.Node) api.Node {
	n.Kids = CopyList(n.Kids)
	return n
}

// CopyGraph answers a graph of new memory throughout, with each cell at its place, whether anything leads there or not.
func CopyGraph(g api.Graph) api.Graph {
	return api.Graph{Cells: CopyEach(g.Cells, func(c api.Cell) api.Cell {
		return api.Cell{N: c.N, Kids: CopyList(c.Kids)}
	})}
}

// CopyPorts answers ports of new memory throughout. What came to them is copied whole, not by chapter 7: it stays as it came.
func CopyPorts(l []api.Port) []api.Port {
	return CopyEach(l, func(p api.Port) api.Port {
		p.Came = CopyEach(p.Came, CopyGraph)
		return p
	})
}

// CopyRealm answers a realm of new memory throughout.
func CopyRealm(r api.Realm) api.Realm {
	return api.Realm{S: Copy(r.S), Hands: CopyList(r.Hands), In: CopyGraph(r.In), Told: CopyList(r.Told)}
}

// CopyEach answers a list of new memory, of a copy of each thing.
func CopyEach[T any](list []T, copyOne func(one T) T) []T {
	copies := make([]T, len(list))
	for k, one := range list {
		copies[k] = copyOne(one)
	}
	return copies
}

// CopyList answers a list of new memory, of things that have no lists of their own.
func CopyList[T any](list []T) []T {
	copies := make([]T, len(list))
	copy(copies, list)
	return copies
}

// RightUnder is the place of what a node stands right under.
func RightUnder(n api.Node) int {
	if n.Host != None {
		return n.Host
	}
	return n.Parent
}

// Parent is the place of what a node is the child of.
func Parent(n api.Node) int {
	return n.Parent
}

// Climb visits what up says of the node at a place, and of that, and so on, as long as there is such a place and visit says so. It takes no more steps than there are places: in a ring there is no last one.
func Climb(s api.Store, place int, up func(n api.Node) int, visit func(at int) bool) {
	if !IsPlace(s, place) {
		return
	}
	at := up(s.Nodes[place])
	for range s.Nodes {
		if !IsPlace(s, at) || !visit(at) {
			return
		}
		at = up(s.Nodes[at])
	}
}

// Under tells whether the node at a place stands, at some step, under the one above.
func Under(s api.Store, place, above int) bool {
	found := false
	Climb(s, place, RightUnder, func(at int) bool {
		found = at == above
		return !found
	})
	return found
}

// IsPlace tells whether the store has such a place.
func IsPlace(s api.Store, place int) bool {
	return Within(place, 0, len(s.Nodes)-1)
}

// IsHost tells whether the node at a place is the Host of some node.
func IsHost(s api.Store, place int) bool {
	return RootOf(s, place) != None
}

// RootOf is the place of the node whose Host is at this place; None, if there is none.
func RootOf(s api.Store, place int) int {
	// None is the Host of all that are no roots.
	if place == None {
		return None
	}
	return slices.IndexFunc(s.Nodes, func(n api.Node) bool {
		return n.Host == place
	})
}

// Walk answers a place, and then, one by one of those that below says of it, that and all below it likewise. Below must lead round in no ring: there is no end to that.
func Walk(place int, below func(place int) []int) []int {
	var walked []int
	var walk func(at int)
	walk = func(at int) {
		walked = append(walked, at)
		for _, next := range below(at) {
			walk(next)
		}
	}
	walk(place)
	return walked
}
