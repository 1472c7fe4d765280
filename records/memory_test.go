package records_test

import (
	"fmt"
	"slices"
	"testing"

	"trellis/api"
)

// spare: the list with room behind it, which nobody may touch: all of it is written full.
func spare[T any](of []T, full T) []T {
	out := append(slices.Clone(of), full, full)
	return out[:len(of)]
}

// beyond: a list with its spare room.
func beyond[T any](of []T) []T { return of[:cap(of)] }

// roomy: a write set all of whose lists have spare room.
func roomy(x api.Delta) api.Delta {
	x.DelEdges, x.DelNodes = spare(x.DelEdges, 77), spare(x.DelNodes, 77)
	x.NewNodes, x.NewEdges = spare(x.NewNodes, nd(77, "Z")), spare(x.NewEdges, ed(77, "Z", 77, 77))
	for i := range x.NewNodes {
		x.NewNodes[i].Props = spare(x.NewNodes[i].Props, pr("Z", num(77)))
	}
	for i := range x.NewEdges {
		x.NewEdges[i].Props = spare(x.NewEdges[i].Props, pr("Z", num(77)))
	}
	x.SetNodes, x.SetEdges = spare(x.SetNodes, to(77, "Z", yes)), spare(x.SetEdges, to(77, "Z", yes))
	return x
}

// wholly: what a write set holds, with its spare room.
func wholly(x api.Delta) string {
	out := fmt.Sprint(beyond(x.DelEdges), beyond(x.DelNodes), beyond(x.NewNodes), beyond(x.NewEdges), beyond(x.SetNodes), beyond(x.SetEdges))
	for _, n := range x.NewNodes {
		out += fmt.Sprint(beyond(n.Props))
	}
	for _, e := range x.NewEdges {
		out += fmt.Sprint(beyond(e.Props))
	}
	return out
}

// blur: writes over all that a write set holds.
func blur(x api.Delta) {
	for i := range x.NewNodes {
		for j := range x.NewNodes[i].Props {
			x.NewNodes[i].Props[j] = pr("q", num(-9))
		}
		x.NewNodes[i] = nd(9, "q")
	}
	for i := range x.NewEdges {
		for j := range x.NewEdges[i].Props {
			x.NewEdges[i].Props[j] = pr("q", num(-9))
		}
		x.NewEdges[i] = ed(9, "q", 9, 9)
	}
	for _, l := range [][]api.PropSet{x.SetNodes, x.SetEdges} {
		for i := range l {
			l[i] = to(9, "q", num(-9))
		}
	}
	for _, l := range [][]int64{x.DelEdges, x.DelNodes} {
		for i := range l {
			l[i] = 9
		}
	}
}

// TestP701HandedIn: a write set is neither changed nor kept, whatever it is answered.
func TestP701HandedIn(t *testing.T) {
	d, s := grown(t, 60, wide)
	for _, x := range []api.Delta{
		rich,
		{DelEdges: list[int64](1, 3), DelNodes: list[int64](3), SetNodes: list(to(1, "a", yes), to(1, "pop", null)), SetEdges: list(to(2, "a", str("x"))), NewNodes: list(nd(-1, "b", numbered(2)...)), NewEdges: list(ed(-1, "t", -1, 1, numbered(3)...))},
		{DelNodes: list[int64](1)}, {SetNodes: list(to(2, "b", yes), to(1, "a", yes))}, {NewNodes: list(nd(-1, "b", numbered(9)...))},
	} {
		x = roomy(x)
		was := wholly(x)
		s.Apply(x, false, true)
		if now := wholly(x); now != was {
			t.Errorf("the write set is %s, was %s", now, was)
		}
		still := unmoved(t, d, s)
		blur(x)
		still()
	}
}

// TestP701HandedOut: what is answered is new memory: what is written into it, or appended to it, is seen by nobody.
func TestP701HandedOut(t *testing.T) {
	_, s := grown(t, 60, wide)
	a, code := s.Apply(rich, false, true)
	wants(t, "Apply", code, api.OK)
	_, _ = append(a.Nodes, 55), append(a.Edges, 66)
	same(t, "the ids", list(a.Nodes, a.Edges), list(list[int64](1, 2, 3), list[int64](1, 2, 3)))
	a.Nodes[0] = 99

	g := must(s.Graph())
	want := fmt.Sprintf("%+v", g)
	for _, l := range [][]int64{must(s.Nodes("")), must(s.Nodes("city")), must(s.Find("city", "pop", num(5))), must(s.Out(1)), must(s.In(1))} {
		l[0] = 99
		_ = append(l, 98)
	}
	n, e := must(s.Node(1)), must(s.Edge(1))
	n.Props[0], e.Props[0] = pr("q", num(-1)), pr("q", num(-2))
	_, _ = append(n.Props, pr("q", yes)), append(e.Props, pr("q", yes))
	for i := range g.Nodes {
		g.Nodes[i].Props = append(g.Nodes[i].Props, pr("q", yes))
	}
	for i := range g.Edges {
		g.Edges[i].Props = append(g.Edges[i].Props, pr("q", yes))
	}
	same(t, "a list of the answer behind an append to another", g.Nodes[1].Props[:1], list(pr("pop", num(5))))
	g.Nodes[0].Label, g.Edges[0].Type = "x", "x"
	g.Nodes[0].Props[0], g.Edges[0].Props[0] = pr("q", num(-1)), pr("q", num(-2))
	same(t, "Graph", fmt.Sprintf("%+v", must(s.Graph())), want)
}
