package space_test

import (
	"fmt"
	"slices"
	"testing"

	"trellis/api"
	"trellis/space"
)

// spare: the list with room behind it, which nobody may touch: all of it is written full.
func spare[T any](of []T, full T) []T {
	return append(slices.Clone(of), full, full)[:len(of)]
}

// beyond: a list with its spare room.
func beyond[T any](of []T) []T { return of[:cap(of)] }

// blurred: all of the list, and its spare room, is written over; and something is appended to it.
func blurred[T any](of []T, with T) {
	for i := range beyond(of) {
		beyond(of)[i] = with
	}
	_ = append(of, with)
}

func blurNode(n api.Node) { blurred(n.Props, pr("Q", num(-9))) }
func blurEdge(e api.Edge) { blurred(e.Props, pr("Q", num(-9))) }

func blurThings(nodes []api.Node, edges []api.Edge) {
	for _, n := range nodes {
		blurNode(n)
	}
	for _, e := range edges {
		blurEdge(e)
	}
	blurred(nodes, nd(99, "Q"))
	blurred(edges, ed(99, "Q", 99, 99))
}

func blurDelta(x api.Delta) {
	blurThings(x.NewNodes, x.NewEdges)
	blurred(x.DelEdges, 99)
	blurred(x.DelNodes, 99)
	blurred(x.SetNodes, to(99, "Q", num(-9)))
	blurred(x.SetEdges, to(99, "Q", num(-9)))
}

// roomy: nodes and edges all of whose lists have spare room.
func roomy(nodes []api.Node, edges []api.Edge) ([]api.Node, []api.Edge) {
	nodes, edges = spare(nodes, nd(77, "Z")), spare(edges, ed(77, "Z", 77, 77))
	for i := range nodes {
		nodes[i].Props = spare(nodes[i].Props, pr("Z", num(77)))
	}
	for i := range edges {
		edges[i].Props = spare(edges[i].Props, pr("Z", num(77)))
	}
	return nodes, edges
}

func roomyDelta(x api.Delta) api.Delta {
	x.NewNodes, x.NewEdges = roomy(x.NewNodes, x.NewEdges)
	x.DelEdges, x.DelNodes = spare(x.DelEdges, 77), spare(x.DelNodes, 77)
	x.SetNodes, x.SetEdges = spare(x.SetNodes, to(77, "Z", yes)), spare(x.SetEdges, to(77, "Z", yes))
	return x
}

// wholly: all that stands in the lists, and in their spare room.
func wholly(x api.Delta) string {
	out := fmt.Sprint(beyond(x.DelEdges), beyond(x.DelNodes), beyond(x.NewNodes), beyond(x.NewEdges), beyond(x.SetNodes), beyond(x.SetEdges))
	for _, n := range x.NewNodes {
		out += fmt.Sprint(beyond(n.Props))
	}
	for _, e := range x.NewEdges {
		out += fmt.Sprint(beyond(e.Props))
	}
	return out
}

// TestP1201GraphHandedIn: a graph is neither changed nor kept, whether it may be loaded or not.
func TestP1201GraphHandedIn(t *testing.T) {
	for _, spoil := range []bool{false, true} {
		g := rich()
		if spoil {
			g.Edges[5].To = 99
		}
		x := api.Delta{}
		x.NewNodes, x.NewEdges = roomy(g.Nodes, g.Edges)
		was := wholly(x)
		m, code := space.Load(api.Graph{Nodes: x.NewNodes, Edges: x.NewEdges})
		same(t, "the graph that was handed in", wholly(x), was)
		blurThings(x.NewNodes, x.NewEdges)
		if code == api.OK {
			same(t, "Graph", m.Graph(), rich())
			same(t, "what the graph shows", shown(m), rich())
		}
	}
}

// TestP1201DeltaHandedIn: a write set is neither changed nor kept, whatever it is answered.
func TestP1201DeltaHandedIn(t *testing.T) {
	m := loaded(t, rich())
	for _, x := range []api.Delta{
		{DelEdges: ids(1, 2, 5), DelNodes: ids(2), SetNodes: list(to(1, "a", yes), to(1, "pop", null)), SetEdges: list(to(6, "a", str("x"))), NewNodes: list(nd(-1, "b", numbered(2)...), nd(-2, "b")), NewEdges: list(ed(-1, "t", -1, 1, numbered(3)...))},
		{DelNodes: ids(1)}, {SetNodes: list(to(4, "b", yes), to(1, "a", yes))}, {NewNodes: list(nd(-1, "b", numbered(9)...))}, {NewNodes: list(nd(-1, "B"))},
	} {
		x = roomyDelta(x)
		was := wholly(x)
		m.Apply(x)
		same(t, "the write set", wholly(x), was)
		g := m.Graph()
		blurDelta(x)
		same(t, "Graph", m.Graph(), g)
		same(t, "what the graph shows", shown(m), g)
	}
}

// TestP1201PropsHandedIn: properties are neither changed nor kept.
func TestP1201PropsHandedIn(t *testing.T) {
	_, s := over(t, rich())
	for n := range 10 {
		for _, make := range []func([]api.Prop) (int64, api.Errno){
			func(l []api.Prop) (int64, api.Errno) { return s.AddNode("a", l) },
			func(l []api.Prop) (int64, api.Errno) { return s.AddEdge("a", 1, 7, l) },
		} {
			props := spare(numbered(n), pr("Z", num(77)))
			was := fmt.Sprint(beyond(props))
			id, code := make(props)
			same(t, "the properties", fmt.Sprint(beyond(props)), was)
			unmoved, mark := still(t, s), s.Mark()
			if code == api.OK {
				s.SetNode(id, "a", yes)
				s.SetEdge(id, "a", yes)
				same(t, "the properties", fmt.Sprint(beyond(props)), was)
				wants(t, "Undo", s.Undo(mark), api.OK)
			}
			blurred(props, pr("Q", num(-9)))
			unmoved()
		}
	}
}

// TestP1201MemHandedOut: what a graph answers is new memory, in each call.
func TestP1201MemHandedOut(t *testing.T) {
	m := loaded(t, rich())
	a := must(m.Apply(api.Delta{NewNodes: list(nd(-1, "city", pr("pop", num(5)))), NewEdges: list(ed(-1, "t", -1, 1, pr("k", yes)))}))
	g := m.Graph()
	all := func() string { return fmt.Sprint(m.Graph(), shown(m), must(m.Out(1)), must(m.In(1))) }
	want := all()
	blurred(a.Nodes, 99)
	blurred(a.Edges, 99)
	blurThings(g.Nodes, g.Edges)
	blurView(m)
	same(t, "the graph", all(), want)
	m.Asked()
	m.Node(1)
	m.Node(2)
	first := m.Asked()
	m.Edge(5)
	same(t, "what was asked", first, list(qNode(1), qNode(2)))
	blurred(first, qNode(99))
	asks(t, m, qEdge(5))
}

// TestP1201GraphApart: no two lists of one answer share memory.
func TestP1201GraphApart(t *testing.T) {
	g := loaded(t, rich()).Graph()
	for i := range g.Nodes {
		_ = append(g.Nodes[i].Props, pr("Q", num(-9)))
		_ = append(g.Edges[i].Props, pr("Q", num(-9)))
		blurred(g.Nodes[i].Props[len(g.Nodes[i].Props):], pr("Q", num(-9)))
	}
	same(t, "the graph behind appends to its lists", g, rich())
}

// blurView: what the view answers is written over.
func blurView(v api.View) {
	for _, l := range [][]int64{must(v.Nodes("")), must(v.Nodes("city")), must(v.Find("city", "pop", num(5))), must(v.Out(1)), must(v.In(1)), must(v.Out(7)), must(v.In(7))} {
		blurred(l, 99)
	}
	for _, id := range must(v.Nodes("")) {
		blurNode(must(v.Node(id)))
		for _, e := range must(v.Out(id)) {
			blurEdge(must(v.Edge(e)))
		}
	}
}

// TestP1201SpaceHandedOut: what a space answers is new memory, in each call.
func TestP1201SpaceHandedOut(t *testing.T) {
	_, s := over(t, rich())
	does(t, s, script[:13])
	for range 3 {
		unmoved := still(t, s)
		blurView(s)
		for _, id := range ids(-1, 1) {
			blurred(must(s.Out(id)), 99)
			blurred(must(s.In(id)), 99)
		}
		x := s.Delta()
		y := fmt.Sprint(x)
		for i := range x.NewNodes {
			_ = append(x.NewNodes[i].Props, pr("Q", num(-9)))
		}
		same(t, "Delta behind appends to its lists", fmt.Sprint(x), y)
		blurDelta(x)
		unmoved()
		linked(t, s, must(s.AddEdge("t", 1, -1, nil))-1, "t", 1, -1)
		wants(t, "Undo", s.Undo(13), api.OK)
		unmoved()
	}
}

// hoard: a view that hands out its own lists, with spare room.
type hoard struct {
	ids   []int64
	props []api.Prop
}

func (h hoard) Nodes(string) ([]int64, api.Errno)                { return h.ids, api.OK }
func (h hoard) Find(_, _ string, _ api.Val) ([]int64, api.Errno) { return h.ids, api.OK }
func (h hoard) Out(int64) ([]int64, api.Errno)                   { return h.ids, api.OK }
func (h hoard) In(int64) ([]int64, api.Errno)                    { return h.ids[:0], api.OK }
func (h hoard) Node(id int64) (api.Node, api.Errno)              { return nd(id, "city", h.props...), api.OK }
func (h hoard) Edge(id int64) (api.Edge, api.Errno)              { return ed(id, "road", 1, 2, h.props...), api.OK }
func (h hoard) Hold(api.Res, int) api.Errno                      { return api.OK }

// TestP1201BaseLists: the lists that a base answers are neither changed nor handed on.
func TestP1201BaseLists(t *testing.T) {
	h := hoard{ids: spare(ids(1, 2, 4, 6), 77), props: spare(numbered(3), pr("Z", num(77)))}
	unmoved := func(was string) {
		t.Helper()
		same(t, "the base's lists", fmt.Sprint(beyond(h.ids), beyond(h.props)), was)
	}
	was := fmt.Sprint(beyond(h.ids), beyond(h.props))
	s := space.New(h)
	blurView(s)
	unmoved(was)
	wants(t, "SetNode", s.SetNode(1, "a", yes), api.OK)
	wants(t, "SetNode", s.SetNode(4, "pop", num(5)), api.OK)
	wants(t, "SetEdge", s.SetEdge(1, "b", null), api.OK)
	wants(t, "DelEdge", s.DelEdge(2), api.OK)
	added(t, s, -1, "city", pr("pop", num(5)))
	linked(t, s, -1, "road", 1, 2)
	blurView(s)
	unmoved(was)
	took(t, s, 2, 4)
	blurView(s)
	unmoved(was)
}
