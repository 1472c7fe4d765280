package space_test

import (
	"testing"

	"trellis/api"
)

// TestP1204Lists: nodes by label and by property, edges by their ends, all rising.
func TestP1204Lists(t *testing.T) {
	m := loaded(t, rich())
	lists(t, "Nodes", 1, 2, 4, 6, 7)(m.Nodes(""))
	lists(t, "Nodes of city", 1, 2, 6)(m.Nodes("city"))
	lists(t, "Nodes of town", 4)(m.Nodes("town"))
	lists(t, "Nodes of cit")(m.Nodes("cit"))
	lists(t, "Find", 1, 2)(m.Find("city", "pop", num(5)))
	lists(t, "Find", 4)(m.Find("town", "pop", num(5)))
	lists(t, "Find another value")(m.Find("city", "pop", num(6)))
	lists(t, "Find a complex number")(m.Find("city", "pop", cpx(5, 0)))
	lists(t, "Find another key")(m.Find("city", "popo", num(5)))
	lists(t, "Find a property of an edge")(m.Find("road", "len", num(3)))
	for _, v := range append(links, null) {
		lists(t, "Find what no property has")(m.Find("city", "pop", v))
		lists(t, "Find what no property has")(m.Find("city", "zip", v))
	}
	lists(t, "Out of 1", 1, 2, 6)(m.Out(1))
	lists(t, "In of 1", 5, 6, 8)(m.In(1))
	lists(t, "Out of 6", 9)(m.Out(6))
	lists(t, "In of 6", 9)(m.In(6))
	lists(t, "Out of 7")(m.Out(7))
	lists(t, "In of 7")(m.In(7))
}

// TestP1204Things: each node and edge, and those that are not there.
func TestP1204Things(t *testing.T) {
	g := rich()
	m := loaded(t, g)
	for _, n := range g.Nodes {
		same(t, "Node", must(m.Node(n.Id)), n)
	}
	for _, e := range g.Edges {
		same(t, "Edge", must(m.Edge(e.Id)), e)
	}
	for _, id := range farIds {
		refused[api.Node](t, "Node", api.ErrNoNode)(m.Node(id))
		refused[[]int64](t, "Out", api.ErrNoNode)(m.Out(id))
		refused[[]int64](t, "In", api.ErrNoNode)(m.In(id))
	}
	for _, id := range append(farIds[3:], 0, 3, 4, 7, 10) {
		refused[api.Edge](t, "Edge", api.ErrNoEdge)(m.Edge(id))
	}
}

// TestP1204Faults: names that are none are told ahead of values that are none.
func TestP1204Faults(t *testing.T) {
	m := loaded(t, rich())
	for _, name := range noNames {
		if name != "" {
			refused[[]int64](t, "Nodes", api.ErrName)(m.Nodes(name))
		}
		refused[[]int64](t, "Find", api.ErrName)(m.Find(name, "pop", num(5)))
		refused[[]int64](t, "Find", api.ErrName)(m.Find("city", name, num(5)))
		refused[[]int64](t, "Find", api.ErrName)(m.Find("city", name, noVals[0]))
	}
	for _, v := range noVals {
		refused[[]int64](t, "Find", api.ErrVal)(m.Find("city", "pop", v))
	}
	for _, r := range []api.Res{{}, {Level: 1}, {Level: 3, Id: -1}, {Level: 99, Label: "A", Id: 5}} {
		for _, mode := range []int{0, 1, 5, 6, -1} {
			wants(t, "Hold", m.Hold(r, mode), api.OK)
		}
	}
	same(t, "Graph", m.Graph(), rich())
}

// TestP1205Asked: each call with its arguments, in order, whatever it answered; then none.
func TestP1205Asked(t *testing.T) {
	m := loaded(t, rich())
	asks(t, m)
	r := api.Res{Level: 9, Label: "Q", Id: -3}
	m.In(1)
	m.Nodes("City")
	m.Nodes("")
	m.Find("a", "", noVals[2])
	m.Find("city", "pop", num(5))
	m.Node(-5)
	m.Node(1)
	m.Edge(99)
	m.Edge(1)
	m.Out(0)
	m.Out(0)
	m.Hold(r, -7)
	m.Hold(api.Res{Level: 3, Id: 1}, 5)
	asks(t, m, qIn(1), qNodes("City"), qNodes(""), qFind("a", "", noVals[2]), qFind("city", "pop", num(5)), qNode(-5), qNode(1), qEdge(99), qEdge(1), qOut(0), qOut(0), qHold(r, -7), qX(1))
	asks(t, m)
	m.Node(2)
	asks(t, m, qNode(2))
}

// TestP1205Apart: Graph and Apply are no asking, and take nothing of it away.
func TestP1205Apart(t *testing.T) {
	m := loaded(t, rich())
	m.Node(7)
	m.Graph()
	must(m.Apply(api.Delta{DelEdges: ids(9), DelNodes: ids(6, 7), SetNodes: list(to(1, "a", yes)), SetEdges: list(to(1, "a", yes)), NewNodes: list(nd(-1, "a")), NewEdges: list(ed(-1, "t", -1, 1))}))
	refused[api.Applied](t, "Apply", api.ErrNoNode)(m.Apply(api.Delta{DelNodes: ids(7)}))
	m.Node(7)
	asks(t, m, qNode(7), qNode(7))
	m.Graph()
	m.Apply(api.Delta{})
	asks(t, m)
}

// TestP1205Long: a list that was asked for is emptied, however long it was, and the next one begins anew.
func TestP1205Long(t *testing.T) {
	m := loaded(t, rich())
	for round := range 3 {
		for id := range int64(500) {
			m.Find("city", "pop", num(id))
		}
		m.Node(int64(round))
		got := m.Asked()
		if len(got) != 501 || got[499] != qFind("city", "pop", num(499)) || got[500] != qNode(int64(round)) {
			t.Errorf("in round %d %d were asked", round, len(got))
		}
	}
	asks(t, m)
}
