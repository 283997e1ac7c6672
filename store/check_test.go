package store_test

import (
	"math"
	"testing"

	"glasshouse/api"
	"glasshouse/store"
)

func TestCheckRight(t *testing.T) {
	closed := with(root(0), func(n *api.Node) { n.Closed = true })
	edge := api.Node{Used: true, Uses: api.MaxUses, Tag: api.MaxTag, Mark: api.MaxValue, Parent: -1, Host: -1}
	chain := many(api.MaxNodes, node())
	for k := range chain.Nodes {
		chain.Nodes[k].Parent = k - 1
		if k < api.MaxNodes-1 {
			chain.Nodes[k].Kids = []int{k + 1}
		}
	}
	right := map[string]api.Store{
		"none":                       {},
		"none in use":                of(empty(), left(3), left(api.MaxUses)),
		"the greatest":               of(edge),
		"the least":                  of(with(edge, func(n *api.Node) { n.Uses, n.Tag, n.Mark = 1, 0, -api.MaxValue })),
		"kids in any order":          of(kid(-1, 2, 1), kid(0), kid(0)),
		"a root":                     of(node(), root(0)),
		"a closed root":              of(node(), closed),
		"a root with kids":           of(node(), root(0, 2), kid(1)),
		"a root of a root":           of(node(), root(0), root(1)),
		"a child that has a root":    of(kid(-1, 1), kid(0), root(1, 3), kid(2)),
		"a chain through all places": chain,
	}
	for what, s := range right {
		wantErrno(t, what, store.Check(s), api.OK)
	}
}

func TestCheckOfOneNode(t *testing.T) {
	cases := []struct {
		what   string
		n      api.Node
		change func(*api.Node)
		want   api.Errno
	}{
		{"Uses below", empty(), func(n *api.Node) { n.Uses = -1 }, api.ErrRange},
		{"Uses above", node(), func(n *api.Node) { n.Uses = api.MaxUses + 1 }, api.ErrRange},
		{"Tag below", node(), func(n *api.Node) { n.Tag = -1 }, api.ErrRange},
		{"Tag above", node(), func(n *api.Node) { n.Tag = api.MaxTag + 1 }, api.ErrRange},
		{"Mark below", node(), func(n *api.Node) { n.Mark = -api.MaxValue - 1 }, api.ErrRange},
		{"Mark above", node(), func(n *api.Node) { n.Mark = api.MaxValue + 1 }, api.ErrRange},
		{"Mark far below", node(), func(n *api.Node) { n.Mark = math.MinInt }, api.ErrRange},
		{"a kid below", node(), func(n *api.Node) { n.Kids = []int{-2} }, api.ErrWho},
		{"a later kid above", node(), func(n *api.Node) { n.Kids = []int{0, 2} }, api.ErrWho},
		{"Parent below", node(), func(n *api.Node) { n.Parent = -2 }, api.ErrWho},
		{"Parent above", node(), func(n *api.Node) { n.Parent = 2 }, api.ErrWho},
		{"Host below", node(), func(n *api.Node) { n.Host = math.MinInt }, api.ErrWho},
		{"Host above", node(), func(n *api.Node) { n.Host = 2 }, api.ErrWho},
		{"unused, a Tag", empty(), func(n *api.Node) { n.Tag = 1 }, api.ErrForm},
		{"unused, a Mark", empty(), func(n *api.Node) { n.Mark = -1 }, api.ErrForm},
		{"unused, a Parent", empty(), func(n *api.Node) { n.Parent = 0 }, api.ErrForm},
		{"unused, a Host", empty(), func(n *api.Node) { n.Host = 0 }, api.ErrForm},
		{"unused, Kids", empty(), func(n *api.Node) { n.Kids = []int{-1} }, api.ErrForm},
		{"unused, Closed", empty(), func(n *api.Node) { n.Closed = true }, api.ErrForm},
		{"used, no Uses", node(), func(n *api.Node) { n.Uses = 0 }, api.ErrForm},
		{"Closed, no Host", node(), func(n *api.Node) { n.Closed = true }, api.ErrForm},
		{"a Host and a Parent", node(), func(n *api.Node) { n.Host, n.Parent = 0, 0 }, api.ErrForm},
		{"zero", api.Node{}, func(n *api.Node) {}, api.ErrForm},
	}
	for _, c := range cases {
		wrong := with(c.n, c.change)
		wantErrno(t, c.what, store.Check(of(node(), wrong)), c.want)
		wantErrno(t, c.what+", first", store.Check(of(wrong, node())), c.want)
	}
}

func TestCheckTree(t *testing.T) {
	wrong := map[string]api.Store{
		"a child is -1":                       of(kid(-1, -1)),
		"a child isn't used":                  of(kid(-1, 1), empty()),
		"a child has no Parent":               of(kid(-1, 1), node()),
		"a child has another Parent":          of(kid(-1, 2), kid(-1, 2), kid(0)),
		"a child is a root":                   of(kid(-1, 1), root(0)),
		"the Host isn't used":                 of(empty(), root(0)),
		"twice in Kids":                       of(kid(-1, 1, 1), kid(0)),
		"in no Kids":                          of(node(), kid(0)),
		"the Parent isn't used":               of(empty(), kid(0)),
		"the Host of two":                     of(node(), root(0), root(0)),
		"a child of itself":                   of(kid(0, 0)),
		"its own Host":                        of(root(0)),
		"a ring of children":                  of(kid(1, 1), kid(0, 0)),
		"a ring of roots":                     of(root(2), root(0), root(1)),
		"a ring of both":                      of(root(1, 1), kid(0)),
		"a ring above one that isn't in it":   of(kid(1), kid(2, 0, 2), kid(1, 1)),
		"a ring behind nodes that stand well": of(kid(-1, 1), kid(0), kid(3, 3), kid(2, 2)),
	}
	for what, s := range wrong {
		wantErrno(t, what, store.Check(s), api.ErrTree)
	}
	ring := many(api.MaxNodes, node())
	for k := range ring.Nodes {
		ring.Nodes[k].Parent = (k + 1) % api.MaxNodes
		ring.Nodes[k].Kids = []int{(k + api.MaxNodes - 1) % api.MaxNodes}
	}
	wantErrno(t, "a ring through all places", store.Check(ring), api.ErrTree)
}

func TestCheckTellsTheFirst(t *testing.T) {
	rangeAndAll := api.Node{Used: true, Mark: api.MaxValue + 1, Parent: 99, Host: 99, Closed: true}
	whoAndForm := api.Node{Parent: 99}
	form := api.Node{Used: true, Parent: -1, Host: -1}
	loop := kid(0, 0)
	cases := []struct {
		what string
		s    api.Store
		want api.Errno
	}{
		{"many ahead of all", many(api.MaxNodes+1, rangeAndAll), api.ErrMany},
		{"many of right ones", many(api.MaxNodes+1, empty()), api.ErrMany},
		{"as many as may be", many(api.MaxNodes, empty()), api.OK},
		{"range ahead of who, form", of(rangeAndAll), api.ErrRange},
		{"who ahead of form", of(whoAndForm), api.ErrWho},
		{"the first node's form, then range", of(form, rangeAndAll), api.ErrForm},
		{"the first node's who, then range", of(whoAndForm, rangeAndAll), api.ErrWho},
		{"the first node's range, then form", of(rangeAndAll, form), api.ErrRange},
		{"a later node's form ahead of tree", of(loop, form), api.ErrForm},
		{"a later node's range ahead of tree", of(loop, rangeAndAll), api.ErrRange},
		{"a later node's who ahead of tree", of(loop, whoAndForm), api.ErrWho},
	}
	for _, c := range cases {
		wantErrno(t, c.what, store.Check(c.s), c.want)
	}
}

// TestCheckOfAllSmallStores holds Check against the document's words, put down one by one, in all stores of three places with some values.
func TestCheckOfAllSmallStores(t *testing.T) {
	var choices []api.Node
	for _, kids := range [][]int{nil, {0}, {1}, {2}, {0, 1}, {1, 2}, {2, 0}, {1, 1}, {-1}} {
		for at := -1; at < 3; at++ {
			choices = append(choices, kid(at, kids...))
			if at >= 0 {
				choices = append(choices, root(at, kids...))
			}
		}
	}
	choices = append(choices, left(1))
	right := 0
	for _, a := range choices {
		for _, b := range choices {
			for _, c := range choices {
				s := of(a, b, c)
				want := api.OK
				if saysTree(s.Nodes) {
					want = api.ErrTree
				} else {
					right++
				}
				if got := store.Check(s); got != want {
					t.Fatalf("check of %+v: %d, want %d", s, got, want)
				}
			}
		}
	}
	if right == 0 {
		t.Error("no right store among them")
	}
}

// saysTree: what ErrTree is told of, clause by clause, of nodes that are right one by one.
func saysTree(nodes []api.Node) bool {
	above := func(k int) int {
		if nodes[k].Host != -1 {
			return nodes[k].Host
		}
		return nodes[k].Parent
	}
	for k, n := range nodes {
		in, hosts := 0, 0
		for p, m := range nodes {
			for _, c := range m.Kids {
				if c == -1 || !nodes[c].Used || nodes[c].Parent != p {
					return true
				}
				if c == k {
					in++
				}
			}
			if m.Host == k {
				hosts++
			}
		}
		if n.Host != -1 && !nodes[n.Host].Used || in > 1 || (n.Parent != -1) != (in == 1) || hosts > 1 {
			return true
		}
		at := above(k)
		for steps := 0; steps < 100 && at != -1; steps++ {
			if at == k {
				return true
			}
			at = above(at)
		}
	}
	return false
}
