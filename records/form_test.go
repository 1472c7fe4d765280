package records_test

import (
	"math"
	"testing"

	"trellis/api"
)

// rich: a graph of three nodes and three edges, with properties of both.
var rich = api.Delta{
	NewNodes: list(nd(-1, "city", pr("name", str("ulm")), pr("pop", num(5))), nd(-2, "city", pr("pop", num(5))), nd(-3, "town")),
	NewEdges: list(ed(-1, "road", -1, -2, pr("len", num(9))), ed(-2, "road", -2, -1), ed(-3, "ring", -3, -3)),
}

// TestP704Delta: each list out of its order, ids that are none of it, lists that do not fit each other.
func TestP704Delta(t *testing.T) {
	d, s := grown(t, 60, wide, rich)
	far := int64(math.MinInt64)
	for _, x := range []api.Delta{
		{DelEdges: list[int64](0)}, {DelEdges: list[int64](-1)}, {DelEdges: list(far)}, {DelEdges: list[int64](1, 1)}, {DelEdges: list[int64](2, 1)}, {DelEdges: list[int64](1, 3, 2)}, {DelEdges: list[int64](-1, 1)},
		{DelNodes: list[int64](0)}, {DelNodes: list[int64](-1)}, {DelNodes: list[int64](3, 3)}, {DelNodes: list[int64](2, 1)}, {DelNodes: list[int64](1, 3, 2)},
		{NewNodes: list(nd(0, "a"))}, {NewNodes: list(nd(1, "a"))}, {NewNodes: list(nd(math.MaxInt64, "a"))}, {NewNodes: list(nd(-1, "a"), nd(-1, "a"))}, {NewNodes: list(nd(-2, "a"), nd(-1, "a"))}, {NewNodes: list(nd(-1, "a"), nd(-3, "a"), nd(-2, "a"))}, {NewNodes: list(nd(0, "a"), nd(-1, "a"))},
		{NewEdges: list(ed(0, "a", 1, 1))}, {NewEdges: list(ed(1, "a", 1, 1))}, {NewEdges: list(ed(-1, "a", 1, 1), ed(-1, "a", 1, 1))}, {NewEdges: list(ed(-2, "a", 1, 1), ed(-1, "a", 1, 1))}, {NewEdges: list(ed(-1, "a", 1, 1), ed(-3, "a", 1, 1), ed(-2, "a", 1, 1))},
		{NewEdges: list(ed(-1, "a", 0, 1))}, {NewEdges: list(ed(-1, "a", 1, 0))}, {NewEdges: list(ed(-1, "a", -1, 1))}, {NewEdges: list(ed(-1, "a", 1, -1))}, {NewEdges: list(ed(-1, "a", 1, 1), ed(-2, "a", far, 1))},
		{NewNodes: list(nd(-1, "a"), nd(-4, "a")), NewEdges: list(ed(-1, "a", -1, -2))}, {NewNodes: list(nd(-2, "a"), nd(-4, "a")), NewEdges: list(ed(-1, "a", -5, -2))}, {NewNodes: list(nd(-2, "a")), NewEdges: list(ed(-1, "a", -1, -2))},
		{DelNodes: list[int64](3), NewEdges: list(ed(-1, "a", 3, 1))}, {DelNodes: list[int64](3), NewEdges: list(ed(-1, "a", 1, 3))}, {DelNodes: list[int64](3, 7), NewEdges: list(ed(-1, "a", 1, 7))},
		{SetNodes: list(to(0, "a", yes))}, {SetNodes: list(to(-1, "a", yes))}, {SetNodes: list(to(1, "a", yes), to(1, "a", yes))}, {SetNodes: list(to(1, "b", yes), to(1, "a", yes))}, {SetNodes: list(to(2, "a", yes), to(1, "b", yes))}, {SetNodes: list(to(1, "ab", yes), to(1, "a", yes))}, {SetNodes: list(to(1, "a", yes), to(2, "b", null), to(2, "a", yes))},
		{DelEdges: list[int64](3), DelNodes: list[int64](3), SetNodes: list(to(3, "a", yes))}, {DelNodes: list[int64](2, 3), SetNodes: list(to(1, "a", yes), to(3, "a", null))},
		{SetEdges: list(to(0, "a", yes))}, {SetEdges: list(to(-1, "a", yes))}, {SetEdges: list(to(1, "a", yes), to(1, "a", null))}, {SetEdges: list(to(1, "b", yes), to(1, "a", yes))}, {SetEdges: list(to(2, "a", yes), to(1, "b", yes))},
		{DelEdges: list[int64](1, 3), SetEdges: list(to(2, "a", yes), to(3, "a", yes))}, {DelEdges: list[int64](1), SetEdges: list(to(1, "a", null))},
	} {
		refuses(t, d, s, x, api.ErrDelta)
	}
}

// TestP704Gaps: ids of the write set's own may have gaps, down to the least number.
func TestP704Gaps(t *testing.T) {
	far := int64(math.MinInt64)
	_, s := grown(t, 60, wide)
	applies(t, s, api.Delta{
		NewNodes: list(nd(-1, "a"), nd(-4, "b"), nd(-5, "c"), nd(far, "d")),
		NewEdges: list(ed(-7, "t", far, -1), ed(-8, "t", -5, -4), ed(far, "t", -4, -4)),
	}, list[int64](1, 2, 3, 4), list[int64](1, 2, 3))
	tells(t, s, api.Graph{
		Nodes: list(nd(1, "a"), nd(2, "b"), nd(3, "c"), nd(4, "d")),
		Edges: list(ed(1, "t", 4, 1), ed(2, "t", 3, 2), ed(3, "t", 2, 2)),
	})
}

// TestP704Edges: what looks wrong and is not: an id of a node that goes, of an edge; keys of unlike ids that fall.
func TestP704Edges(t *testing.T) {
	_, s := grown(t, 60, wide, rich)
	applies(t, s, api.Delta{
		DelEdges: list[int64](3), DelNodes: list[int64](3),
		SetNodes: list(to(1, "z", num(1)), to(2, "a", num(2))),
		SetEdges: list(to(1, "z", num(3)), to(2, "a", num(4))),
		NewEdges: list(ed(-1, "x", 1, 1)),
	}, nil, list[int64](3))
	applies(t, s, api.Delta{DelEdges: list[int64](1), SetNodes: list(to(1, "z", null))}, nil, nil)
	applies(t, s, api.Delta{NewNodes: list(nd(-3, "c")), DelNodes: nil, SetEdges: list(to(3, "k", no))}, list[int64](3), nil)
	applies(t, s, api.Delta{DelNodes: list[int64](3), SetEdges: list(to(3, "k", null))}, nil, nil)
	tells(t, s, api.Graph{
		Nodes: list(nd(1, "city", pr("name", str("ulm")), pr("pop", num(5))), nd(2, "city", pr("a", num(2)), pr("pop", num(5)))),
		Edges: list(ed(2, "road", 2, 1, pr("a", num(4))), ed(3, "x", 1, 1)),
	})
}

// TestP704Name: labels, types and keys that are no names.
func TestP704Name(t *testing.T) {
	d, s := grown(t, 60, wide, rich)
	for _, bad := range noNames {
		for _, x := range []api.Delta{
			{NewNodes: list(nd(-1, bad))}, {NewNodes: list(nd(-1, "a"), nd(-2, bad))},
			{NewNodes: list(nd(-1, "a", pr(bad, yes)))}, {NewNodes: list(nd(-1, "a"), nd(-2, "a", pr("a", yes), pr(bad, yes)))},
			{NewEdges: list(ed(-1, bad, 1, 1))}, {NewEdges: list(ed(-1, "a", 1, 1), ed(-2, bad, 1, 1))},
			{NewEdges: list(ed(-1, "a", 1, 1, pr(bad, yes)))}, {NewEdges: list(ed(-1, "a", 1, 1, pr("a", yes), pr(bad, yes)))},
			{SetNodes: list(to(1, bad, yes))}, {SetNodes: list(to(1, "a", yes), to(2, bad, null))},
			{SetEdges: list(to(1, bad, yes))}, {SetEdges: list(to(1, "a", yes), to(2, bad, null))},
		} {
			refuses(t, d, s, x, api.ErrName)
		}
	}
}

// TestP704Props: too many, out of order, of no storable value.
func TestP704Props(t *testing.T) {
	d, s := grown(t, 60, wide, rich)
	bad := [][]api.Prop{numbered(9), list(pr("b", yes), pr("a", yes)), list(pr("a", yes), pr("a", yes)), list(pr("ab", yes), pr("a", yes)), list(pr("a", null)), list(pr("a", yes), pr("b", null))}
	unstored := append([]api.Val{toNode(1), toEdge(1), {Kind: api.KNode, A: -1}}, noVals...)
	for _, v := range unstored {
		bad = append(bad, list(pr("a", v)), list(pr("a", yes), pr("b", v)))
		for _, x := range []api.Delta{{SetNodes: list(to(1, "a", v))}, {SetNodes: list(to(1, "a", null), to(2, "a", v))}, {SetEdges: list(to(1, "a", v))}, {SetEdges: list(to(1, "a", yes), to(1, "b", v))}} {
			refuses(t, d, s, x, api.ErrProps)
		}
	}
	for _, props := range bad {
		for _, x := range []api.Delta{{NewNodes: list(nd(-1, "a", props...))}, {NewNodes: list(nd(-1, "a"), nd(-2, "a", props...))}, {NewEdges: list(ed(-1, "a", 1, 1, props...))}, {NewEdges: list(ed(-1, "a", 1, 1), ed(-2, "a", 1, 1, props...))}} {
			refuses(t, d, s, x, api.ErrProps)
		}
	}
	applies(t, s, api.Delta{NewNodes: list(nd(-1, "a", numbered(8)...)), NewEdges: list(ed(-1, "a", -1, -1, numbered(8)...))}, list[int64](4), list[int64](4))
}

// TestP704Order: the form of ids is told ahead of names, names ahead of properties, all that ahead of the graph.
func TestP704Order(t *testing.T) {
	d, s := grown(t, 60, wide, rich)
	badName, badProp, away := nd(-1, "A"), nd(-1, "a", pr("a", null)), to(99, "k", yes)
	for _, c := range []struct {
		x    api.Delta
		want api.Errno
	}{
		{api.Delta{NewNodes: list(badName), SetEdges: list(to(0, "a", yes))}, api.ErrDelta},
		{api.Delta{NewNodes: list(badProp), NewEdges: list(ed(-1, "t", -2, -1))}, api.ErrDelta},
		{api.Delta{DelEdges: list[int64](99), SetNodes: list(to(2, "a", yes), to(1, "a", yes))}, api.ErrDelta},
		{api.Delta{NewNodes: list(badProp), SetEdges: list(to(1, "A", yes))}, api.ErrName},
		{api.Delta{NewNodes: list(nd(-1, "a", pr("b", yes), pr("A", yes)))}, api.ErrName},
		{api.Delta{NewNodes: list(badName), DelNodes: list[int64](99)}, api.ErrName},
		{api.Delta{NewNodes: list(nd(-1, "a", append(numbered(9), pr("", yes))...))}, api.ErrName},
		{api.Delta{NewNodes: list(badProp), DelEdges: list[int64](99)}, api.ErrProps},
		{api.Delta{SetNodes: list(away), SetEdges: list(to(1, "a", toNode(1)))}, api.ErrProps},
		{api.Delta{SetNodes: list(away)}, api.ErrNoNode},
	} {
		refuses(t, d, s, c.x, c.want)
	}
}
