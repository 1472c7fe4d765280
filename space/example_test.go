package space_test

import (
	"testing"

	"trellis/api"
)

// TestP1207Examples1To5: the chapter's examples 1 to 5, one behind the other.
func TestP1207Examples1To5(t *testing.T) {
	m, s := over(t, chapter())
	added(t, s, -1, "town")
	linked(t, s, -1, "road", -1, 2)
	lists(t, "Nodes", 1, 2, -1)(s.Nodes(""))
	lists(t, "In of 2", 4, -1)(s.In(2))
	lists(t, "Out of -1", -1)(s.Out(-1))
	asks(t, m, qMix("town"), qX(2), qNode(2), qNodes(""), qIn(2))

	wants(t, "SetNode of 2", s.SetNode(2, "pop", num(5)), api.OK)
	lists(t, "Find", 1, 2)(s.Find("city", "pop", num(5)))
	wants(t, "SetNode of 1", s.SetNode(1, "pop", null), api.OK)
	lists(t, "Find", 2)(s.Find("city", "pop", num(5)))
	same(t, "Node 1", must(s.Node(1)), nd(1, "city"))

	refused[int](t, "DelNode of 1", api.ErrHasEdges)(s.DelNode(1, false))
	took(t, s, 1, 1)
	refused[api.Node](t, "Node 1", api.ErrGone)(s.Node(1))
	refused[api.Edge](t, "Edge 4", api.ErrGone)(s.Edge(4))
	lists(t, "In of 2", -1)(s.In(2))

	x := api.Delta{DelEdges: ids(4), DelNodes: ids(1), NewNodes: list(nd(-1, "town")), NewEdges: list(ed(-1, "road", -1, 2)), SetNodes: list(to(2, "pop", num(5)))}
	same(t, "Delta", s.Delta(), x)
	same(t, "Apply", must(loaded(t, chapter()).Apply(x)), api.Applied{Nodes: ids(1), Edges: ids(1)})

	same(t, "Mark", s.Mark(), 5)
	wants(t, "Undo(2)", s.Undo(2), api.OK)
	same(t, "Delta", s.Delta(), api.Delta{NewNodes: x.NewNodes, NewEdges: x.NewEdges})
	same(t, "Node 1", must(s.Node(1)), chapter().Nodes[0])
	wants(t, "Undo(3)", s.Undo(3), api.ErrMark)
	added(t, s, -2, "town")
}

// TestP1208Example6: the chapter's example 6.
func TestP1208Example6(t *testing.T) {
	m, s := over(t, chapter())
	refused[int64](t, "AddEdge", api.ErrNoNode)(s.AddEdge("road", 1, 9, nil))
	asks(t, m, qX(1), qNode(1), qX(9), qNode(9))
	refused[api.Node](t, "Node 0", api.ErrNoNode)(s.Node(0))
	refused[api.Node](t, "Node -7", api.ErrNoNode)(s.Node(-7))
	wants(t, "SetNode", s.SetNode(1, "Pop", num(1)), api.ErrName)
}
