package space_test

import (
	"math"
	"testing"

	"trellis/api"
)

// unapplied: the write set is answered with that error, and nothing has changed.
func unapplied(t *testing.T, g api.Graph, x api.Delta, want api.Errno) {
	t.Helper()
	m := loaded(t, g)
	got, code := m.Apply(x)
	if code != want {
		t.Errorf("Apply(%+v) = %d, want %d", x, code, want)
	}
	same(t, "Apply", got, api.Applied{})
	same(t, "Graph", m.Graph(), g)
	same(t, "what the graph shows", shown(m), g)
}

// applied: the write set is applied, the new nodes and edges get these ids, and the graph is that behind it, by every call.
func applied(t *testing.T, g api.Graph, x api.Delta, got api.Applied, behind api.Graph) {
	t.Helper()
	m := loaded(t, g)
	same(t, "Apply", must(m.Apply(x)), got)
	same(t, "Graph", m.Graph(), behind)
	same(t, "what the graph shows", shown(m), behind)
}

// TestP1203Form: lists out of their order, ids that a list may not have, ends of new edges that are none, sets of what goes.
func TestP1203Form(t *testing.T) {
	far := int64(math.MinInt64)
	for _, x := range []api.Delta{
		{DelEdges: ids(0)}, {DelEdges: ids(-1)}, {DelEdges: ids(2, 1)}, {DelEdges: ids(1, 1)}, {DelEdges: ids(1, far)}, {DelEdges: ids(math.MaxInt64, 1)},
		{DelNodes: ids(0)}, {DelNodes: ids(-7)}, {DelNodes: ids(7, 4)}, {DelNodes: ids(7, 7)}, {DelNodes: ids(math.MaxInt64, 7)},
		{NewNodes: list(nd(0, "a"))}, {NewNodes: list(nd(1, "a"))}, {NewNodes: list(nd(-2, "a"), nd(-1, "a"))}, {NewNodes: list(nd(-1, "a"), nd(-1, "a"))}, {NewNodes: list(nd(far, "a"), nd(-1, "a"))}, {NewNodes: list(nd(-1, "a"), nd(math.MaxInt64, "a"))},
		{NewEdges: list(ed(0, "a", 1, 1))}, {NewEdges: list(ed(1, "a", 1, 1))}, {NewEdges: list(ed(-2, "a", 1, 1), ed(-1, "a", 1, 1))}, {NewEdges: list(ed(-1, "a", 1, 1), ed(-1, "a", 1, 1))},
		{NewEdges: list(ed(-1, "a", 0, 1))}, {NewEdges: list(ed(-1, "a", 1, 0))}, {NewEdges: list(ed(-1, "a", -1, 1))}, {NewEdges: list(ed(-1, "a", 1, -1))}, {NewNodes: list(nd(-1, "a"), nd(-3, "a")), NewEdges: list(ed(-1, "a", -1, -2))},
		{DelNodes: ids(7), NewEdges: list(ed(-1, "a", 7, 1))}, {DelNodes: ids(7), NewEdges: list(ed(-1, "a", 1, 1), ed(-2, "a", 1, 7))},
		{SetNodes: list(to(0, "a", yes))}, {SetNodes: list(to(-1, "a", yes))}, {SetNodes: list(to(1, "a", yes), to(1, "a", no))}, {SetNodes: list(to(1, "b", yes), to(1, "a", yes))}, {SetNodes: list(to(2, "a", yes), to(1, "b", yes))}, {SetNodes: list(to(1, "ab", yes), to(1, "a", null))}, {NewNodes: list(nd(-1, "a")), SetNodes: list(to(-1, "a", yes))},
		{DelNodes: ids(4, 7), SetNodes: list(to(1, "a", yes), to(7, "a", null))},
		{SetEdges: list(to(0, "a", yes))}, {SetEdges: list(to(-1, "a", yes))}, {SetEdges: list(to(1, "a", yes), to(1, "a", yes))}, {SetEdges: list(to(1, "b", yes), to(1, "a", yes))}, {SetEdges: list(to(5, "a", yes), to(2, "b", yes))},
		{DelEdges: ids(1, 5), SetEdges: list(to(2, "a", yes), to(5, "a", null))},
	} {
		unapplied(t, rich(), x, api.ErrDelta)
	}
}

// TestP1203Names: labels, types and keys that are no names.
func TestP1203Names(t *testing.T) {
	for _, bad := range noNames {
		for _, x := range []api.Delta{
			{NewNodes: list(nd(-1, "a"), nd(-2, bad))}, {NewNodes: list(nd(-1, "a", pr("a", yes), pr(bad, yes)))},
			{NewEdges: list(ed(-1, "a", 1, 1), ed(-2, bad, 1, 1))}, {NewEdges: list(ed(-1, "a", 1, 1, pr("a", yes), pr(bad, yes)))},
			{SetNodes: list(to(1, "a", yes), to(2, bad, null))}, {SetEdges: list(to(1, "a", yes), to(2, bad, null))},
		} {
			unapplied(t, rich(), x, api.ErrName)
		}
	}
}

// TestP1203Props: properties that are not good, values that a property cannot be set to.
func TestP1203Props(t *testing.T) {
	for _, props := range badProps() {
		unapplied(t, rich(), api.Delta{NewNodes: list(nd(-1, "a"), nd(-2, "a", props...))}, api.ErrProps)
		unapplied(t, rich(), api.Delta{NewEdges: list(ed(-1, "a", 1, 1), ed(-2, "a", 1, 1, props...))}, api.ErrProps)
	}
	for _, v := range append(noVals, links...) {
		unapplied(t, rich(), api.Delta{SetNodes: list(to(1, "a", null), to(2, "a", v))}, api.ErrProps)
		unapplied(t, rich(), api.Delta{SetEdges: list(to(1, "a", yes), to(1, "b", v))}, api.ErrProps)
	}
}

// TestP1203Against: what the graph does not have, and nodes that keep an edge.
func TestP1203Against(t *testing.T) {
	for _, id := range []int64{3, 10, 1 << 32, math.MaxInt64} {
		unapplied(t, rich(), api.Delta{DelEdges: ids(1, id)}, api.ErrNoEdge)
		unapplied(t, rich(), api.Delta{SetEdges: list(to(1, "a", yes), to(id, "a", null))}, api.ErrNoEdge)
		unapplied(t, rich(), api.Delta{DelNodes: ids(id)}, api.ErrNoNode)
		unapplied(t, rich(), api.Delta{NewEdges: list(ed(-1, "a", id, 1))}, api.ErrNoNode)
		unapplied(t, rich(), api.Delta{NewNodes: list(nd(-1, "a")), NewEdges: list(ed(-1, "a", -1, id))}, api.ErrNoNode)
		unapplied(t, rich(), api.Delta{SetNodes: list(to(1, "a", yes), to(id, "a", null))}, api.ErrNoNode)
	}
	for _, x := range []api.Delta{
		{DelNodes: ids(1)}, {DelNodes: ids(2)}, {DelNodes: ids(4)}, {DelNodes: ids(6)}, {DelEdges: ids(1, 2, 5, 6), DelNodes: ids(1)}, {DelEdges: ids(1, 2, 5, 8), DelNodes: ids(1)}, {DelEdges: ids(1, 2, 6, 8), DelNodes: ids(1)}, {DelEdges: ids(1, 5), DelNodes: ids(2)}, {DelEdges: ids(1, 2), DelNodes: ids(2)},
	} {
		unapplied(t, rich(), x, api.ErrHasEdges)
	}
}

// TestP1203Crowd: eight properties at most are left of each; just what is left counts.
func TestP1203Crowd(t *testing.T) {
	for _, x := range []api.Delta{
		{SetNodes: list(to(6, "z", yes))}, {SetEdges: list(to(5, "z", yes))}, {SetNodes: list(to(6, "aa", yes), to(6, "b", null), to(6, "z", yes))}, {SetEdges: list(to(5, "q", null), to(5, "z", yes))},
		{SetNodes: list(to(7, "a", yes), to(7, "b", yes), to(7, "c", yes), to(7, "d", yes), to(7, "e", yes), to(7, "f", yes), to(7, "g", yes), to(7, "h", yes), to(7, "i", yes))},
	} {
		unapplied(t, rich(), x, api.ErrProps)
	}
	g := rich()
	g.Nodes[3].Props = append(list(pr("a", no), pr("aa", yes)), numbered(8)[2:]...)
	g.Edges[2].Props = append(numbered(7), pr("z", yes))
	applied(t, rich(), api.Delta{SetNodes: list(to(6, "a", no), to(6, "aa", yes), to(6, "b", null)), SetEdges: list(to(5, "h", null), to(5, "z", yes))}, api.Applied{}, g)
}

// TestP1203Order: of several faults the one that is named first.
func TestP1203Order(t *testing.T) {
	badName, badProp := nd(-1, "A"), nd(-1, "a", pr("a", null))
	for _, c := range []struct {
		x    api.Delta
		want api.Errno
	}{
		{api.Delta{NewNodes: list(badName), SetEdges: list(to(0, "a", yes))}, api.ErrDelta},
		{api.Delta{DelEdges: ids(99), NewNodes: list(badProp), NewEdges: list(ed(-1, "t", -2, -1))}, api.ErrDelta},
		{api.Delta{NewNodes: list(badProp), SetEdges: list(to(1, "A", yes))}, api.ErrName},
		{api.Delta{NewNodes: list(nd(-1, "a", append(numbered(9), pr("", yes))...))}, api.ErrName},
		{api.Delta{NewNodes: list(badName), DelNodes: ids(99)}, api.ErrName},
		{api.Delta{NewNodes: list(badProp), DelEdges: ids(99)}, api.ErrProps},
		{api.Delta{DelEdges: ids(99), DelNodes: ids(99)}, api.ErrNoEdge},
		{api.Delta{DelNodes: ids(1, 99)}, api.ErrHasEdges},
		{api.Delta{DelNodes: ids(3, 4)}, api.ErrNoNode},
		{api.Delta{DelNodes: ids(99), SetEdges: list(to(99, "a", yes))}, api.ErrNoNode},
		{api.Delta{DelNodes: ids(1), NewEdges: list(ed(-1, "a", 99, 99))}, api.ErrHasEdges},
		{api.Delta{NewEdges: list(ed(-1, "a", 99, 99)), SetEdges: list(to(99, "a", yes))}, api.ErrNoNode},
		{api.Delta{SetNodes: list(to(99, "a", yes)), SetEdges: list(to(99, "a", yes))}, api.ErrNoNode},
		{api.Delta{SetNodes: list(to(6, "z", yes)), SetEdges: list(to(99, "a", yes))}, api.ErrNoEdge},
		{api.Delta{SetNodes: list(to(6, "z", yes), to(99, "z", yes))}, api.ErrNoNode},
	} {
		unapplied(t, rich(), c.x, c.want)
	}
}

// TestP1203Ids: each new one gets the least id that is free, behind the deletes, in the order of the write set; nodes and edges apart.
func TestP1203Ids(t *testing.T) {
	far := int64(math.MinInt64)
	x := api.Delta{
		DelEdges: ids(9), DelNodes: ids(6),
		NewNodes: list(nd(-1, "a", pr("k", num(1))), nd(-4, "b"), nd(-5, "c"), nd(far, "d")),
		NewEdges: list(ed(-2, "t", far, -1), ed(-3, "t", -5, 7, pr("k", num(2))), ed(-9, "t", -4, -4), ed(far, "t", 1, far)),
	}
	old := rich()
	behind := api.Graph{
		Nodes: list(old.Nodes[0], old.Nodes[1], nd(3, "a", pr("k", num(1))), old.Nodes[2], nd(5, "b"), nd(6, "c"), old.Nodes[4], nd(8, "d")),
		Edges: list(old.Edges[0], old.Edges[1], ed(3, "t", 8, 3), ed(4, "t", 6, 7, pr("k", num(2))), old.Edges[2], old.Edges[3], ed(7, "t", 5, 5), old.Edges[4], ed(9, "t", 1, 8)),
	}
	applied(t, old, x, api.Applied{Nodes: ids(3, 5, 6, 8), Edges: ids(3, 4, 7, 9)}, behind)
}

// TestP1203Whole: deletes, sets and new ones at once; and one write set behind the other.
func TestP1203Whole(t *testing.T) {
	m := loaded(t, rich())
	for _, c := range []struct {
		x    api.Delta
		want api.Applied
	}{
		{api.Delta{}, api.Applied{}},
		{api.Delta{DelEdges: ids(1, 2, 5), DelNodes: ids(2), SetNodes: list(to(1, "name", null), to(1, "zip", num(9)), to(7, "x", null)), SetEdges: list(to(6, "a", yes), to(9, "k", no)), NewNodes: list(nd(-1, "city", pr("pop", num(5)))), NewEdges: list(ed(-1, "road", -1, 1))}, api.Applied{Nodes: ids(2), Edges: ids(1)}},
		{api.Delta{DelEdges: ids(9), DelNodes: ids(6), SetEdges: list(to(1, "a", str("x")))}, api.Applied{}},
		{api.Delta{DelNodes: ids(7)}, api.Applied{}},
	} {
		same(t, "Apply", must(m.Apply(c.x)), c.want)
	}
	want := api.Graph{
		Nodes: list(nd(1, "city", pr("pop", num(5)), pr("zip", num(9))), nd(2, "city", pr("pop", num(5))), nd(4, "town", pr("pop", num(5)))),
		Edges: list(ed(1, "road", 2, 1, pr("a", str("x"))), ed(6, "ring", 1, 1, pr("a", yes)), ed(8, "rail", 4, 1)),
	}
	same(t, "Graph", m.Graph(), want)
	same(t, "what the graph shows", shown(m), want)
	lists(t, "Find", 1, 2)(m.Find("city", "pop", num(5)))
	lists(t, "In of 1", 1, 6, 8)(m.In(1))
	refused[api.Edge](t, "Edge 2", api.ErrNoEdge)(m.Edge(2))
}

// TestP1203Many: no graph in memory is full.
func TestP1203Many(t *testing.T) {
	const n = 3000
	var x api.Delta
	for i := range int64(n) {
		x.NewNodes = append(x.NewNodes, nd(-1-i, "a", numbered(8)...))
		x.NewEdges = append(x.NewEdges, ed(-1-i, "t", -1, -1-i))
	}
	m := loaded(t, rich())
	a := must(m.Apply(x))
	g := m.Graph()
	if len(a.Nodes) != n || len(a.Edges) != n || len(g.Nodes) != n+5 || len(g.Edges) != n+6 {
		t.Errorf("%d and %d were made, %d and %d are there", len(a.Nodes), len(a.Edges), len(g.Nodes), len(g.Edges))
	}
}
