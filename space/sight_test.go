package space_test

import (
	"slices"
	"testing"

	"trellis/api"
	"trellis/space"
)

// TestP1206New: without a base there is no space; a nil pointer in a base is one, and answers ErrArg.
func TestP1206New(t *testing.T) {
	if s := space.New(nil); s != nil {
		t.Errorf("New(nil) = %v", s)
	}
	var noMem *space.Mem
	var noSpace *space.Space
	for _, base := range []api.View{noMem, noSpace} {
		s := space.New(base)
		if s == nil {
			t.Fatal("New = nil")
		}
		refused[[]int64](t, "Nodes", api.ErrArg)(s.Nodes(""))
		refused[[]int64](t, "Find", api.ErrArg)(s.Find("a", "a", yes))
		refused[api.Node](t, "Node", api.ErrArg)(s.Node(1))
		refused[api.Edge](t, "Edge", api.ErrArg)(s.Edge(1))
		refused[[]int64](t, "Out", api.ErrArg)(s.Out(1))
		refused[[]int64](t, "In", api.ErrArg)(s.In(1))
		wants(t, "Hold", s.Hold(api.Res{}, 0), api.ErrArg)
		refused[int64](t, "AddNode", api.ErrArg)(s.AddNode("a", nil))
		refused[int64](t, "AddEdge", api.ErrArg)(s.AddEdge("a", 1, 2, nil))
		wants(t, "SetNode", s.SetNode(1, "a", yes), api.ErrArg)
		wants(t, "SetEdge", s.SetEdge(1, "a", yes), api.ErrArg)
		refused[int](t, "DelNode", api.ErrArg)(s.DelNode(1, true))
		wants(t, "DelEdge", s.DelEdge(1), api.ErrArg)
		refused[api.Node](t, "Node", api.ErrNoNode)(s.Node(-1))
		same(t, "Mark", s.Mark(), 0)
		same(t, "Delta", s.Delta(), api.Delta{})
		wants(t, "Undo", s.Undo(0), api.OK)
	}
}

// TestP1207Empty: a space without changes shows its base, and asks it just what it is asked.
func TestP1207Empty(t *testing.T) {
	m, s := over(t, rich())
	same(t, "what the space shows", shown(s), rich())
	m.Asked()
	r := api.Res{Level: 7, Label: "x", Id: -9}
	s.Nodes("city")
	s.Find("city", "pop", num(5))
	s.Node(1)
	s.Edge(1)
	s.Out(1)
	s.In(1)
	wants(t, "Hold", s.Hold(r, 99), api.OK)
	asks(t, m, qNodes("city"), qFind("city", "pop", num(5)), qNode(1), qEdge(1), qOut(1), qIn(1), qHold(r, 99))
	same(t, "Delta", s.Delta(), api.Delta{})
	asks(t, m)
}

// TestP1207Faults: the base's errors are the space's; of its own ids the base is not asked.
func TestP1207Faults(t *testing.T) {
	m, s := over(t, rich())
	refused[[]int64](t, "Nodes", api.ErrName)(s.Nodes("City"))
	refused[[]int64](t, "Find", api.ErrName)(s.Find("city", "Pop", num(5)))
	refused[[]int64](t, "Find", api.ErrVal)(s.Find("city", "pop", noVals[0]))
	m.Asked()
	for _, id := range farIds {
		refused[api.Node](t, "Node", api.ErrNoNode)(s.Node(id))
		refused[[]int64](t, "Out", api.ErrNoNode)(s.Out(id))
		refused[[]int64](t, "In", api.ErrNoNode)(s.In(id))
		if id < 0 {
			asks(t, m)
		} else {
			asks(t, m, qNode(id), qOut(id), qIn(id))
		}
	}
	for _, id := range ids(0, 3, 99, -1, -99) {
		refused[api.Edge](t, "Edge", api.ErrNoEdge)(s.Edge(id))
		if id < 0 {
			asks(t, m)
		} else {
			asks(t, m, qEdge(id))
		}
	}
}

// TestP1207Nodes: those of the base without the gone ones, then its own as they were made.
func TestP1207Nodes(t *testing.T) {
	m, s := over(t, rich())
	added(t, s, -1, "city", pr("pop", num(5)))
	added(t, s, -2, "town")
	added(t, s, -3, "city")
	added(t, s, -4, "fort")
	m.Asked()
	lists(t, "Nodes", 1, 2, 4, 6, 7, -1, -2, -3, -4)(s.Nodes(""))
	lists(t, "Nodes of city", 1, 2, 6, -1, -3)(s.Nodes("city"))
	lists(t, "Nodes of fort", -4)(s.Nodes("fort"))
	asks(t, m, qNodes(""), qNodes("city"), qNodes("fort"))
	took(t, s, 2, 3)
	took(t, s, -1, 0)
	took(t, s, 7, 0)
	took(t, s, -4, 0)
	lists(t, "Nodes", 1, 4, 6, -2, -3)(s.Nodes(""))
	lists(t, "Nodes of city", 1, 6, -3)(s.Nodes("city"))
	lists(t, "Nodes of fort")(s.Nodes("fort"))
	added(t, s, -5, "city")
	lists(t, "Nodes of city", 1, 6, -3, -5)(s.Nodes("city"))
}

// TestP1207Find: what the base finds, less what was set, taken away or deleted, more what was set to that value; then its own.
func TestP1207Find(t *testing.T) {
	m, s := over(t, rich())
	find := func(want ...int64) {
		t.Helper()
		m.Asked()
		lists(t, "Find", want...)(s.Find("city", "pop", num(5)))
		asks(t, m, qFind("city", "pop", num(5)))
	}
	find(1, 2)
	wants(t, "SetNode", s.SetNode(6, "a", null), api.OK)
	wants(t, "SetNode", s.SetNode(6, "pop", num(5)), api.OK)
	find(1, 2, 6)
	wants(t, "SetNode", s.SetNode(1, "pop", num(5)), api.OK)
	wants(t, "SetNode", s.SetNode(1, "zip", num(5)), api.OK)
	find(1, 2, 6)
	wants(t, "SetNode", s.SetNode(1, "pop", cpx(5, 0)), api.OK)
	find(2, 6)
	lists(t, "Find", 1)(s.Find("city", "pop", cpx(5, 0)))
	wants(t, "SetNode", s.SetNode(7, "pop", num(5)), api.OK) // of another label
	find(2, 6)
	lists(t, "Find", 7)(s.Find("lone", "pop", num(5)))
	wants(t, "SetNode", s.SetNode(2, "pop", null), api.OK)
	find(6)
	wants(t, "SetNode", s.SetNode(1, "pop", num(5)), api.OK)
	find(1, 6)
	added(t, s, -1, "city", pr("pop", num(5)))
	added(t, s, -2, "town", pr("pop", num(5)))
	added(t, s, -3, "city", pr("pop", num(4)))
	added(t, s, -4, "city", pr("pop", num(5)), pr("zip", yes))
	find(1, 6, -1, -4)
	wants(t, "SetNode", s.SetNode(-1, "pop", num(6)), api.OK)
	wants(t, "SetNode", s.SetNode(-3, "pop", num(5)), api.OK)
	find(1, 6, -3, -4)
	took(t, s, 6, 1)
	took(t, s, -4, 0)
	find(1, -3)
}

// TestP1207FindNull: a property that was taken away, or never was there, is not found as null.
func TestP1207FindNull(t *testing.T) {
	_, s := over(t, rich())
	wants(t, "SetNode", s.SetNode(1, "pop", null), api.OK)
	wants(t, "SetNode", s.SetNode(2, "zip", yes), api.OK)
	added(t, s, -1, "city", pr("pop", yes))
	wants(t, "SetNode", s.SetNode(-1, "pop", null), api.OK)
	for _, key := range []string{"pop", "zip", "x"} {
		lists(t, "Find null")(s.Find("city", key, null))
	}
}

// TestP1207Props: what was set has that value, what was taken away is not there; keys rising.
func TestP1207Props(t *testing.T) {
	m, s := over(t, rich())
	for _, p := range list(pr("pop", num(6)), pr("z", yes), pr("a", str("x")), pr("name", null), pr("none", null), pr("m", num(1)), pr("m", null), pr("p", null), pr("p", num(2))) {
		wants(t, "SetNode", s.SetNode(1, p.Key, p.Val), api.OK)
		wants(t, "SetEdge", s.SetEdge(1, p.Key, p.Val), api.OK)
	}
	m.Asked()
	want := list(pr("a", str("x")), pr("p", num(2)), pr("pop", num(6)), pr("z", yes))
	same(t, "Node 1", must(s.Node(1)), nd(1, "city", want...))
	want = slices.Insert(want, 1, pr("len", num(3)))
	same(t, "Edge 1", must(s.Edge(1)), ed(1, "road", 1, 2, want...))
	asks(t, m, qNode(1), qEdge(1))
	same(t, "Node 2", must(s.Node(2)), rich().Nodes[1])
	same(t, "Edge 2", must(s.Edge(2)), rich().Edges[1])
}

// TestP1207Edges: those of the base without the gone ones, then its own as they were made, at both ends.
func TestP1207Edges(t *testing.T) {
	m, s := over(t, rich())
	added(t, s, -1, "town")
	linked(t, s, -1, "a", 1, -1, pr("k", num(1)))
	linked(t, s, -2, "b", -1, 1)
	linked(t, s, -3, "c", 1, 2)
	linked(t, s, -4, "d", 1, 1)
	linked(t, s, -5, "e", -1, -1)
	m.Asked()
	lists(t, "Out of 1", 1, 2, 6, -1, -3, -4)(s.Out(1))
	lists(t, "In of 1", 5, 6, 8, -2, -4)(s.In(1))
	asks(t, m, qOut(1), qIn(1))
	lists(t, "Out of -1", -2, -5)(s.Out(-1))
	lists(t, "In of -1", -1, -5)(s.In(-1))
	same(t, "Edge -1", must(s.Edge(-1)), ed(-1, "a", 1, -1, pr("k", num(1))))
	same(t, "Edge -5", must(s.Edge(-5)), ed(-5, "e", -1, -1))
	asks(t, m)
	for _, id := range ids(2, 8, -1, -4, -5) {
		wants(t, "DelEdge", s.DelEdge(id), api.OK)
	}
	lists(t, "Out of 1", 1, 6, -3)(s.Out(1))
	lists(t, "In of 1", 5, 6, -2)(s.In(1))
	lists(t, "Out of 4")(s.Out(4))
	lists(t, "Out of -1", -2)(s.Out(-1))
	lists(t, "In of -1")(s.In(-1))
	lists(t, "In of 2", 1, -3)(s.In(2))
}

// TestP1207Gone: of what is gone ErrGone is told, and the base is not asked.
func TestP1207Gone(t *testing.T) {
	m, s := over(t, rich())
	added(t, s, -1, "town")
	linked(t, s, -1, "a", 1, -1)
	linked(t, s, -2, "a", 2, 2)
	took(t, s, -1, 1)
	took(t, s, 4, 1)
	wants(t, "DelEdge", s.DelEdge(1), api.OK)
	m.Asked()
	for _, id := range ids(-1, 4) {
		refused[api.Node](t, "Node", api.ErrGone)(s.Node(id))
		refused[[]int64](t, "Out", api.ErrGone)(s.Out(id))
		refused[[]int64](t, "In", api.ErrGone)(s.In(id))
	}
	for _, id := range ids(-1, 1, 8) {
		refused[api.Edge](t, "Edge", api.ErrGone)(s.Edge(id))
	}
	refused[api.Node](t, "Node -2", api.ErrNoNode)(s.Node(-2))
	refused[api.Edge](t, "Edge -3", api.ErrNoEdge)(s.Edge(-3))
	asks(t, m)
	same(t, "Edge -2", must(s.Edge(-2)), ed(-2, "a", 2, 2))
}

// TestP1207Over: a space over a space shows what both have changed.
func TestP1207Over(t *testing.T) {
	_, below := over(t, rich())
	wants(t, "SetNode", below.SetNode(1, "pop", num(9)), api.OK)
	took(t, below, 4, 1)
	s := space.New(below)
	refused[api.Node](t, "Node 4", api.ErrGone)(s.Node(4))
	wants(t, "SetNode", s.SetNode(2, "pop", num(9)), api.OK)
	lists(t, "Find", 1, 2)(s.Find("city", "pop", num(9)))
	added(t, s, -1, "city")
	lists(t, "Nodes", 1, 2, 6, 7, -1)(s.Nodes(""))
	same(t, "Delta", s.Delta(), api.Delta{NewNodes: list(nd(-1, "city")), SetNodes: list(to(2, "pop", num(9)))})
	lists(t, "Nodes below", 1, 2, 6, 7)(below.Nodes(""))
}
