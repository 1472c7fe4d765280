package space_test

import (
	"math"
	"testing"

	"trellis/api"
)

// TestP1208AddNode: a node is made under the next id, behind the lock on its label.
func TestP1208AddNode(t *testing.T) {
	m, s := over(t, rich())
	added(t, s, -1, "city", numbered(8)...)
	added(t, s, -2, "abcdefgh")
	asks(t, m, qMix("city"), qMix("abcdefgh"))
	same(t, "Node -1", must(s.Node(-1)), nd(-1, "city", numbered(8)...))
	same(t, "Node -2", must(s.Node(-2)), nd(-2, "abcdefgh"))
	lists(t, "Out of -1")(s.Out(-1))
	asks(t, m)
	same(t, "Delta", s.Delta(), api.Delta{NewNodes: list(nd(-1, "city", numbered(8)...), nd(-2, "abcdefgh"))})
}

// TestP1208Faults: names ahead of properties, both ahead of the ends; nothing is asked for what cannot be made.
func TestP1208Faults(t *testing.T) {
	m, s := over(t, rich())
	unmoved := still(t, s)
	m.Asked()
	for _, name := range noNames {
		refused[int64](t, "AddNode", api.ErrName)(s.AddNode(name, nil))
		refused[int64](t, "AddNode", api.ErrName)(s.AddNode(name, numbered(9)))
		refused[int64](t, "AddEdge", api.ErrName)(s.AddEdge(name, 1, 2, nil))
		refused[int64](t, "AddEdge", api.ErrName)(s.AddEdge(name, 99, -9, numbered(9)))
		for _, props := range [][]api.Prop{list(pr(name, yes)), list(pr("a", yes), pr(name, yes))} {
			refused[int64](t, "AddNode", api.ErrProps)(s.AddNode("a", props))
			refused[int64](t, "AddEdge", api.ErrProps)(s.AddEdge("a", 99, -9, props))
		}
	}
	for _, props := range badProps() {
		refused[int64](t, "AddNode", api.ErrProps)(s.AddNode("a", props))
		refused[int64](t, "AddEdge", api.ErrProps)(s.AddEdge("a", 99, -9, props))
	}
	asks(t, m)
	unmoved()
}

// TestP1208AddEdge: the ends in their order, each with its lock and its node; one that is both ends once; one of its own without.
func TestP1208AddEdge(t *testing.T) {
	m, s := over(t, rich())
	added(t, s, -1, "a")
	added(t, s, -2, "a")
	m.Asked()
	for i, c := range []struct {
		from, to int64
		asked    []api.Asked
	}{
		{2, 1, list(qX(2), qNode(2), qX(1), qNode(1))}, {1, 2, list(qX(1), qNode(1), qX(2), qNode(2))}, {4, 4, list(qX(4), qNode(4))},
		{-1, 7, list(qX(7), qNode(7))}, {7, -1, list(qX(7), qNode(7))}, {-1, -2, nil}, {-2, -2, nil},
	} {
		linked(t, s, int64(-1-i), "t", c.from, c.to, numbered(i+2)...)
		asks(t, m, c.asked...)
		same(t, "Edge", must(s.Edge(int64(-1-i))), ed(int64(-1-i), "t", c.from, c.to, numbered(i+2)...))
	}
}

// TestP1208Ends: ends that are not there, or are gone; behind the first of them nothing is asked.
func TestP1208Ends(t *testing.T) {
	m, s := over(t, rich())
	added(t, s, -1, "a")
	added(t, s, -2, "a")
	took(t, s, -2, 0)
	took(t, s, 7, 0)
	unmoved := still(t, s)
	m.Asked()
	for _, c := range []struct {
		from, to int64
		want     api.Errno
		asked    []api.Asked
	}{
		{99, 1, api.ErrNoNode, list(qX(99), qNode(99))}, {1, 99, api.ErrNoNode, list(qX(1), qNode(1), qX(99), qNode(99))}, {0, -9, api.ErrNoNode, list(qX(0), qNode(0))}, {-1, 3, api.ErrNoNode, list(qX(3), qNode(3))},
		{-3, 1, api.ErrNoNode, nil}, {math.MinInt64, 7, api.ErrNoNode, nil}, {1, -3, api.ErrNoNode, list(qX(1), qNode(1))}, {99, 99, api.ErrNoNode, list(qX(99), qNode(99))},
		{7, 1, api.ErrGone, nil}, {7, 99, api.ErrGone, nil}, {1, 7, api.ErrGone, list(qX(1), qNode(1))}, {-2, 1, api.ErrGone, nil}, {-1, -2, api.ErrGone, nil}, {-2, -9, api.ErrGone, nil}, {-9, -2, api.ErrNoNode, nil},
	} {
		refused[int64](t, "AddEdge", c.want)(s.AddEdge("t", c.from, c.to, nil))
		asks(t, m, c.asked...)
	}
	unmoved()
}

// TestP1209Faults: keys ahead of values, both ahead of the node or edge; nothing is asked.
func TestP1209Faults(t *testing.T) {
	m, s := over(t, rich())
	unmoved := still(t, s)
	m.Asked()
	for _, key := range noNames {
		for _, v := range []api.Val{yes, null, noVals[0]} {
			wants(t, "SetNode", s.SetNode(1, key, v), api.ErrName)
			wants(t, "SetNode", s.SetNode(-9, key, v), api.ErrName)
			wants(t, "SetEdge", s.SetEdge(1, key, v), api.ErrName)
			wants(t, "SetEdge", s.SetEdge(-9, key, v), api.ErrName)
		}
	}
	for _, v := range append(noVals, links...) {
		wants(t, "SetNode", s.SetNode(1, "a", v), api.ErrProps)
		wants(t, "SetNode", s.SetNode(-9, "a", v), api.ErrProps)
		wants(t, "SetEdge", s.SetEdge(1, "a", v), api.ErrProps)
		wants(t, "SetEdge", s.SetEdge(-9, "a", v), api.ErrProps)
	}
	asks(t, m)
	unmoved()
}

// TestP1209Asks: a node's lock ahead of the node; an edge ahead of the lock on its From; of its own nothing.
func TestP1209Asks(t *testing.T) {
	m, s := over(t, rich())
	added(t, s, -1, "a")
	linked(t, s, -1, "t", 1, -1)
	m.Asked()
	wants(t, "SetNode", s.SetNode(2, "a", yes), api.OK)
	asks(t, m, qX(2), qNode(2))
	wants(t, "SetNode", s.SetNode(2, "a", null), api.OK)
	asks(t, m, qX(2), qNode(2))
	wants(t, "SetEdge", s.SetEdge(8, "a", yes), api.OK)
	asks(t, m, qEdge(8), qX(4))
	wants(t, "SetEdge", s.SetEdge(6, "a", null), api.OK)
	asks(t, m, qEdge(6), qX(1))
	wants(t, "SetNode", s.SetNode(-1, "a", yes), api.OK)
	wants(t, "SetEdge", s.SetEdge(-1, "a", yes), api.OK)
	asks(t, m)
	for _, id := range ids(0, 3, 99) {
		wants(t, "SetNode", s.SetNode(id, "a", yes), api.ErrNoNode)
		asks(t, m, qX(id), qNode(id))
		wants(t, "SetEdge", s.SetEdge(id, "a", yes), api.ErrNoEdge)
		asks(t, m, qEdge(id))
	}
	for _, id := range ids(-2, -99, math.MinInt64) {
		wants(t, "SetNode", s.SetNode(id, "a", yes), api.ErrNoNode)
		wants(t, "SetEdge", s.SetEdge(id, "a", yes), api.ErrNoEdge)
		asks(t, m)
	}
}

// TestP1209Gone: what is gone cannot be set.
func TestP1209Gone(t *testing.T) {
	m, s := over(t, rich())
	added(t, s, -1, "a")
	linked(t, s, -1, "t", 1, -1)
	took(t, s, -1, 1)
	took(t, s, 4, 1)
	unmoved := still(t, s)
	m.Asked()
	for _, id := range ids(-1, 4) {
		wants(t, "SetNode", s.SetNode(id, "a", yes), api.ErrGone)
	}
	for _, id := range ids(-1, 8) {
		wants(t, "SetEdge", s.SetEdge(id, "a", null), api.ErrGone)
	}
	asks(t, m)
	unmoved()
}

// TestP1209Crowd: eight properties at most, of those that show; behind all that is asked.
func TestP1209Crowd(t *testing.T) {
	m, s := over(t, rich())
	added(t, s, -1, "a", numbered(8)...)
	linked(t, s, -1, "t", -1, -1, numbered(8)...)
	for _, c := range []struct {
		set   func(int64, string, api.Val) api.Errno
		id    int64
		asked []api.Asked
	}{
		{s.SetNode, 6, list(qX(6), qNode(6))}, {s.SetEdge, 5, list(qEdge(5), qX(2))}, {s.SetNode, -1, nil}, {s.SetEdge, -1, nil},
	} {
		unmoved := still(t, s)
		m.Asked()
		wants(t, "the ninth", c.set(c.id, "z", yes), api.ErrProps)
		asks(t, m, c.asked...)
		unmoved()
		wants(t, "one of the eight", c.set(c.id, "a", yes), api.OK)
		wants(t, "one that is not there is taken away", c.set(c.id, "y", null), api.OK)
		wants(t, "the ninth", c.set(c.id, "z", yes), api.ErrProps)
		wants(t, "one is taken away", c.set(c.id, "b", null), api.OK)
		wants(t, "another one", c.set(c.id, "z", yes), api.OK)
		wants(t, "the ninth", c.set(c.id, "b", yes), api.ErrProps)
		wants(t, "the ninth", c.set(c.id, "y", yes), api.ErrProps)
	}
	for _, key := range []string{"c", "d", "e", "f", "g", "h", "i", "j"} {
		wants(t, "SetNode", s.SetNode(7, key, yes), api.OK)
	}
	wants(t, "the ninth", s.SetNode(7, "a", yes), api.ErrProps)
}

// TestP1209Same: a value that is there is set all the same, a property that is not there is taken away all the same: they count, and stand in the write set.
func TestP1209Same(t *testing.T) {
	_, s := over(t, rich())
	wants(t, "SetNode", s.SetNode(1, "pop", num(5)), api.OK)
	wants(t, "SetNode", s.SetNode(7, "x", null), api.OK)
	wants(t, "SetEdge", s.SetEdge(1, "len", num(3)), api.OK)
	wants(t, "SetEdge", s.SetEdge(2, "x", null), api.OK)
	same(t, "what the space shows", shown(s), rich())
	same(t, "Mark", s.Mark(), 4)
	same(t, "Delta", s.Delta(), api.Delta{SetNodes: list(to(1, "pop", num(5)), to(7, "x", null)), SetEdges: list(to(1, "len", num(3)), to(2, "x", null))})
}

// TestP1210DelEdge: an edge, then the locks on its ends, one that is both once; of its own nothing.
func TestP1210DelEdge(t *testing.T) {
	m, s := over(t, rich())
	added(t, s, -1, "a")
	linked(t, s, -1, "t", 1, -1)
	m.Asked()
	wants(t, "DelEdge", s.DelEdge(5), api.OK)
	asks(t, m, qEdge(5), qX(2), qX(1))
	wants(t, "DelEdge", s.DelEdge(6), api.OK)
	asks(t, m, qEdge(6), qX(1))
	wants(t, "DelEdge", s.DelEdge(-1), api.OK)
	wants(t, "DelEdge", s.DelEdge(-1), api.ErrGone)
	wants(t, "DelEdge", s.DelEdge(5), api.ErrGone)
	wants(t, "DelEdge", s.DelEdge(-2), api.ErrNoEdge)
	asks(t, m)
	for _, id := range ids(0, 3, 99) {
		wants(t, "DelEdge", s.DelEdge(id), api.ErrNoEdge)
		asks(t, m, qEdge(id))
	}
	same(t, "Mark", s.Mark(), 5)
}

// TestP1210DelNode: a node without edges, and without those that are gone already.
func TestP1210DelNode(t *testing.T) {
	m, s := over(t, rich())
	added(t, s, -1, "a")
	m.Asked()
	for _, detach := range []bool{false, true} {
		for _, id := range ids(0, 3, 99) {
			refused[int](t, "DelNode", api.ErrNoNode)(s.DelNode(id, detach))
			asks(t, m, qX(id), qNode(id))
		}
		for _, id := range ids(-2, -99, math.MinInt64) {
			refused[int](t, "DelNode", api.ErrNoNode)(s.DelNode(id, detach))
		}
	}
	same(t, "DelNode", must(s.DelNode(7, false)), 0)
	asks(t, m, qX(7), qNode(7), qOut(7), qIn(7))
	same(t, "DelNode", must(s.DelNode(-1, false)), 0)
	for _, id := range ids(7, -1) {
		refused[int](t, "DelNode", api.ErrGone)(s.DelNode(id, true))
	}
	asks(t, m)
	refused[int](t, "DelNode", api.ErrHasEdges)(s.DelNode(4, false))
	asks(t, m, qX(4), qNode(4), qOut(4), qIn(4))
	wants(t, "DelEdge", s.DelEdge(8), api.OK)
	m.Asked()
	same(t, "DelNode", must(s.DelNode(4, false)), 0)
	asks(t, m, qX(4), qNode(4), qOut(4), qIn(4))
}

// TestP1210Detach: with its edges: those of the base are asked for, Out first, each with the lock on its other end; a ring once, and without; gone ones and its own not at all.
func TestP1210Detach(t *testing.T) {
	m, s := over(t, rich())
	added(t, s, -1, "a")
	linked(t, s, -1, "t", -1, 1)
	linked(t, s, -2, "t", 1, 1)
	linked(t, s, -3, "t", 1, 7)
	linked(t, s, -4, "t", 7, -1)
	wants(t, "DelEdge", s.DelEdge(2), api.OK)
	wants(t, "DelEdge", s.DelEdge(-3), api.OK)
	m.Asked()
	unmoved := still(t, s)
	m.Asked()
	refused[int](t, "DelNode", api.ErrHasEdges)(s.DelNode(1, false))
	asks(t, m, qX(1), qNode(1), qOut(1), qIn(1))
	unmoved()
	m.Asked()
	took(t, s, 1, 6)
	asks(t, m, qX(1), qNode(1), qOut(1), qIn(1), qEdge(1), qX(2), qEdge(6), qEdge(5), qX(2), qEdge(8), qX(4))
	for _, id := range ids(1, 2, 5, 6, 8, -1, -2, -3) {
		refused[api.Edge](t, "Edge", api.ErrGone)(s.Edge(id))
	}
	lists(t, "Out of 2")(s.Out(2))
	lists(t, "In of 2")(s.In(2))
	lists(t, "Out of -1")(s.Out(-1))
	lists(t, "In of -1", -4)(s.In(-1))
	same(t, "Delta", s.Delta(), api.Delta{DelEdges: ids(1, 2, 5, 6, 8), DelNodes: ids(1), NewNodes: list(nd(-1, "a")), NewEdges: list(ed(-4, "t", 7, -1))})
}

// TestP1210Own: a node of its own goes with its own edges; nothing is asked, also where the other end is the base's.
func TestP1210Own(t *testing.T) {
	m, s := over(t, rich())
	added(t, s, -1, "a")
	added(t, s, -2, "a")
	linked(t, s, -1, "t", -1, 1)
	linked(t, s, -2, "t", -1, -1)
	linked(t, s, -3, "t", -2, -1)
	linked(t, s, -4, "t", -2, 2)
	m.Asked()
	refused[int](t, "DelNode", api.ErrHasEdges)(s.DelNode(-1, false))
	took(t, s, -1, 3)
	asks(t, m)
	lists(t, "In of 1", 5, 6, 8)(s.In(1))
	lists(t, "Out of -2", -4)(s.Out(-2))
	same(t, "Delta", s.Delta(), api.Delta{NewNodes: list(nd(-2, "a")), NewEdges: list(ed(-4, "t", -2, 2))})
}
