package records_test

import (
	"testing"

	"trellis/api"
	"trellis/disk"
	"trellis/records"
)

// first: the write set of the first example.
var first = api.Delta{
	NewNodes: list(nd(-1, "city", pr("pop", num(5))), nd(-2, "city")),
	NewEdges: list(ed(-1, "road", -1, -2)),
}

// TestP702Examples: what the chapter says of its store.
func TestP702Examples(t *testing.T) {
	nodes, edges, props, keys := records.Caps(small)
	same(t, "Caps", list(nodes, edges, props, keys), list(5, 3, 4, 4))
}

// TestP706Examples1To4: the chapter's examples 1 to 4.
func TestP706Examples1To4(t *testing.T) {
	d, _ := disk.New(64)
	wants(t, "Format", records.Format(d, 30, small), api.OK)
	s := opens(t, d)
	a, code := s.Apply(first, false, true)
	wants(t, "Apply", code, api.OK)
	same(t, "Apply", a, api.Applied{Nodes: list[int64](1, 2), Edges: list[int64](1), Lsn: 3})
	outed(t, s, 1, 1)
	inned(t, s, 2, 1)
	outed(t, s, 2)
	found(t, s, "city", "pop", num(5), 1)
	counts(t, s, 1)

	refuses(t, d, s, api.Delta{DelNodes: list[int64](2)}, api.ErrHasEdges)
	applies(t, s, api.Delta{DelEdges: list[int64](1), DelNodes: list[int64](2), NewNodes: list(nd(-1, "town"))}, list[int64](2), nil)
	tells(t, s, api.Graph{Nodes: list(nd(1, "city", pr("pop", num(5))), nd(2, "town"))})

	applies(t, s, api.Delta{SetNodes: list(to(1, "pop", null))}, nil, nil)
	found(t, s, "city", "pop", num(5))
	tells(t, s, api.Graph{Nodes: list(nd(1, "city"), nd(2, "town"))})

	counts(t, s, 3)
	refuses(t, d, s, api.Delta{}, api.OK)
	counts(t, s, 3)
}

// TestP704Example5: write sets of the wrong form.
func TestP704Example5(t *testing.T) {
	d, s := grown(t, 30, small, first)
	refuses(t, d, s, api.Delta{NewEdges: list(ed(-1, "road", 1, 9))}, api.ErrNoNode)
	refuses(t, d, s, api.Delta{NewEdges: list(ed(-1, "road", 1, -1))}, api.ErrDelta)
	refuses(t, d, s, api.Delta{NewNodes: list(nd(-2, "a"), nd(-1, "a"))}, api.ErrDelta)
	refuses(t, d, s, api.Delta{NewNodes: list(nd(-1, "City"))}, api.ErrName)
}

// TestP705Example6: one for one in a store that is full.
func TestP705Example6(t *testing.T) {
	d, s := grown(t, 30, small, nodesOf(5))
	applies(t, s, api.Delta{DelNodes: list[int64](3), NewNodes: list(nd(-1, "b"))}, list[int64](3), nil)
	refuses(t, d, s, nodesOf(1), api.ErrFull)
}

// TestP706Example7: a chain has the last edge first.
func TestP706Example7(t *testing.T) {
	d, s := grown(t, 30, small, nodesOf(2))
	for id := range int64(3) {
		applies(t, s, api.Delta{NewEdges: list(ed(-1, "t", 1, 2))}, nil, list(id+1))
	}
	at := below(t, d)
	has(t, at, 1, 1, nodeRec("a", 3, 0, 0))
	has(t, at, 2, 3, edgeRec("t", [...]int64{1, 2, 0, 2, 0, 2, 0}))
	has(t, at, 2, 2, edgeRec("t", [...]int64{1, 2, 3, 1, 3, 1, 0}))
	has(t, at, 2, 1, edgeRec("t", [...]int64{1, 2, 2, 0, 2, 0, 0}))
	outed(t, s, 1, 1, 2, 3)
	applies(t, s, api.Delta{DelEdges: list[int64](2)}, nil, nil)
	at = below(t, d)
	has(t, at, 2, 3, edgeRec("t", [...]int64{1, 2, 0, 1, 0, 1, 0}))
	has(t, at, 2, 1, edgeRec("t", [...]int64{1, 2, 3, 0, 3, 0, 0}))
	outed(t, s, 1, 1, 3)
}

// TestP704Example8: properties are set with rising keys.
func TestP704Example8(t *testing.T) {
	d, s := grown(t, 30, small, nodesOf(1))
	refuses(t, d, s, api.Delta{SetNodes: list(to(1, "b", num(2)), to(1, "a", num(1)))}, api.ErrDelta)
	applies(t, s, api.Delta{SetNodes: list(to(1, "a", num(1)), to(1, "b", num(2)))}, nil, nil)
	at := below(t, d)
	has(t, at, 1, 1, nodeRec("a", 0, 0, 1))
	has(t, at, 3, 1, propRec("a", 0, 2, num(1)))
	has(t, at, 3, 2, propRec("b", 1, 0, num(2)))
}

// TestP703Example9: what Format, Find and Nodes are asked there.
func TestP703Example9(t *testing.T) {
	d, _ := disk.New(64)
	wants(t, "Format", records.Format(d, 30, api.Sizes{Node: 100, Edge: 100, Prop: 100, Tree: 100}), api.ErrArg)
	_, s := grown(t, 30, small, first)
	_, code := s.Find("city", "", num(1))
	wants(t, "Find", code, api.ErrName)
	noded(t, s, "", 1, 2)
}
