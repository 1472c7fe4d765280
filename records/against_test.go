package records_test

import (
	"testing"

	"trellis/api"
)

// TestP705There: what the write set speaks of is not there.
func TestP705There(t *testing.T) {
	d, s := grown(t, 60, wide, rich)
	for _, id := range []int64{4, 18, 19, 20, 21, 1 << 32, 1<<32 + 1, 1<<62 + 1} {
		for _, c := range []struct {
			x    api.Delta
			want api.Errno
		}{
			{api.Delta{DelEdges: list(id)}, api.ErrNoEdge}, {api.Delta{DelEdges: list(1, id)}, api.ErrNoEdge},
			{api.Delta{DelNodes: list(id)}, api.ErrNoNode}, {api.Delta{DelEdges: list[int64](3), DelNodes: list(3, id)}, api.ErrNoNode},
			{api.Delta{NewEdges: list(ed(-1, "a", id, 1))}, api.ErrNoNode}, {api.Delta{NewEdges: list(ed(-1, "a", 1, id))}, api.ErrNoNode}, {api.Delta{NewNodes: list(nd(-1, "a")), NewEdges: list(ed(-1, "a", -1, id))}, api.ErrNoNode},
			{api.Delta{SetNodes: list(to(id, "a", yes))}, api.ErrNoNode}, {api.Delta{SetNodes: list(to(1, "a", yes), to(id, "a", null))}, api.ErrNoNode},
			{api.Delta{SetEdges: list(to(id, "a", yes))}, api.ErrNoEdge}, {api.Delta{SetEdges: list(to(1, "a", yes), to(id, "a", null))}, api.ErrNoEdge},
		} {
			refuses(t, d, s, c.x, c.want)
		}
	}
	// The id that a new node will get is none that the store has.
	refuses(t, d, s, api.Delta{NewNodes: list(nd(-1, "a")), NewEdges: list(ed(-1, "a", 4, 4))}, api.ErrNoNode)
	refuses(t, d, s, api.Delta{NewNodes: list(nd(-1, "a")), SetNodes: list(to(4, "a", yes))}, api.ErrNoNode)
	refuses(t, d, s, api.Delta{NewEdges: list(ed(-1, "a", 1, 1)), SetEdges: list(to(4, "a", yes))}, api.ErrNoEdge)
}

// TestP705HasEdges: a node goes with all its edges alone.
func TestP705HasEdges(t *testing.T) {
	d, s := grown(t, 60, wide, rich)
	for _, x := range []api.Delta{
		{DelNodes: list[int64](1)}, {DelNodes: list[int64](2)}, {DelNodes: list[int64](3)},
		{DelEdges: list[int64](1), DelNodes: list[int64](1)}, {DelEdges: list[int64](2), DelNodes: list[int64](1)},
		{DelEdges: list[int64](1), DelNodes: list[int64](2)}, {DelEdges: list[int64](2), DelNodes: list[int64](2)},
		{DelEdges: list[int64](1, 2), DelNodes: list[int64](1, 2, 3)}, {DelEdges: list[int64](3), DelNodes: list[int64](2, 3)},
	} {
		refuses(t, d, s, x, api.ErrHasEdges)
	}
	applies(t, s, api.Delta{DelEdges: list[int64](1, 2), DelNodes: list[int64](1, 2)}, nil, nil)
	applies(t, s, api.Delta{DelEdges: list[int64](3), DelNodes: list[int64](3)}, nil, nil)
	tells(t, s, api.Graph{})
}

// TestP705Order: the lists in their order, each from its first element on, and each ahead of the counts.
func TestP705Order(t *testing.T) {
	d, s := grown(t, 60, wide, rich)
	crowd := nodesOf(30)
	many := func(id int64) (out []api.PropSet) {
		for _, p := range numbered(9) {
			out = append(out, to(id, p.Key, p.Val))
		}
		return out
	}
	for _, c := range []struct {
		x    api.Delta
		want api.Errno
	}{
		{api.Delta{DelEdges: list[int64](9), DelNodes: list[int64](9)}, api.ErrNoEdge},
		{api.Delta{DelNodes: list[int64](1, 9)}, api.ErrHasEdges},
		{api.Delta{DelEdges: list[int64](1, 2), DelNodes: list[int64](1, 9, 10)}, api.ErrNoNode},
		{api.Delta{DelNodes: list[int64](9), SetEdges: list(to(9, "a", yes))}, api.ErrNoNode},
		{api.Delta{DelNodes: list[int64](1), NewEdges: list(ed(-1, "a", 9, 9))}, api.ErrHasEdges},
		{api.Delta{NewEdges: list(ed(-1, "a", 9, 9)), SetEdges: list(to(9, "a", yes))}, api.ErrNoNode},
		{api.Delta{SetNodes: list(to(9, "a", yes)), SetEdges: list(to(9, "a", yes))}, api.ErrNoNode},
		{api.Delta{SetNodes: many(1), SetEdges: list(to(9, "a", yes))}, api.ErrNoEdge},
		{api.Delta{NewNodes: crowd.NewNodes, SetEdges: list(to(9, "a", yes))}, api.ErrNoEdge},
		{api.Delta{NewNodes: crowd.NewNodes, SetEdges: many(1)}, api.ErrProps},
		{api.Delta{NewNodes: crowd.NewNodes}, api.ErrFull},
	} {
		refuses(t, d, s, c.x, c.want)
	}
}

// TestP705Props: eight properties at most are left of each; just what is left counts.
func TestP705Props(t *testing.T) {
	eight := numbered(8)
	d, s := grown(t, 60, wide, api.Delta{NewNodes: list(nd(-1, "a", eight...), nd(-2, "a")), NewEdges: list(ed(-1, "t", -1, -1, eight...), ed(-2, "t", -1, -1, eight[:7]...))})
	refuses(t, d, s, api.Delta{SetNodes: list(to(1, "z", yes))}, api.ErrProps)
	refuses(t, d, s, api.Delta{SetEdges: list(to(1, "z", yes))}, api.ErrProps)
	refuses(t, d, s, api.Delta{SetNodes: list(to(1, "aa", yes), to(1, "b", null), to(1, "z", no))}, api.ErrProps)
	refuses(t, d, s, api.Delta{SetEdges: list(to(1, "q", null), to(1, "z", yes))}, api.ErrProps)
	refuses(t, d, s, api.Delta{SetEdges: list(to(2, "y", yes), to(2, "z", yes))}, api.ErrProps)
	refuses(t, d, s, api.Delta{SetNodes: list(to(1, "a", null), to(2, "z", yes)), SetEdges: list(to(1, "b", yes), to(1, "z", yes))}, api.ErrProps)

	applies(t, s, api.Delta{SetNodes: list(to(1, "b", null), to(1, "z", yes)), SetEdges: list(to(1, "aa", yes), to(1, "h", null))}, nil, nil)
	applies(t, s, api.Delta{SetNodes: list(to(1, "a", no), to(2, "x", num(1))), SetEdges: list(to(2, "z", yes))}, nil, nil)
	n, _ := s.Node(1)
	e, _ := s.Edge(2)
	if len(n.Props) != 8 || len(e.Props) != 8 {
		t.Errorf("%+v, %+v", n, e)
	}
}

// TestP705Full: of each kind as many as the store holds, and no more; just what is left counts.
func TestP705Full(t *testing.T) {
	d, s := grown(t, 60, small, nodesOf(5))
	refuses(t, d, s, nodesOf(1), api.ErrFull)
	refuses(t, d, s, api.Delta{DelNodes: list[int64](2), NewNodes: nodesOf(2).NewNodes}, api.ErrFull)
	applies(t, s, api.Delta{DelNodes: list[int64](2, 4), NewNodes: nodesOf(2).NewNodes}, list[int64](2, 4), nil)

	three := list(ed(-1, "t", 1, 2), ed(-2, "t", 2, 1), ed(-3, "t", 1, 1))
	applies(t, s, api.Delta{NewEdges: three}, nil, list[int64](1, 2, 3))
	refuses(t, d, s, api.Delta{NewEdges: three[:1]}, api.ErrFull)
	refuses(t, d, s, api.Delta{DelEdges: list[int64](1), NewEdges: three[:2]}, api.ErrFull)
	applies(t, s, api.Delta{DelEdges: list[int64](1, 3), NewEdges: three[:2]}, nil, list[int64](1, 3))
}

// TestP705FullOfProps: properties of nodes and of edges together.
func TestP705FullOfProps(t *testing.T) {
	x := api.Delta{NewNodes: list(nd(-1, "a", numbered(2)...)), NewEdges: list(ed(-1, "t", -1, -1, numbered(2)...))}
	d, s := grown(t, 60, small, x)
	for _, x := range []api.Delta{
		{SetNodes: list(to(1, "z", yes))}, {SetEdges: list(to(1, "z", yes))}, {NewNodes: list(nd(-1, "a", pr("a", yes)))}, {NewEdges: list(ed(-1, "t", 1, 1, pr("a", yes)))},
		{SetNodes: list(to(1, "a", null)), SetEdges: list(to(1, "y", yes), to(1, "z", yes))},
		{SetNodes: list(to(1, "z", null)), SetEdges: list(to(1, "z", yes))},
		{DelEdges: list[int64](1), NewEdges: list(ed(-1, "t", 1, 1, numbered(3)...))},
		{DelEdges: list[int64](1), DelNodes: list[int64](1), NewNodes: list(nd(-1, "a", numbered(5)...))},
	} {
		refuses(t, d, s, x, api.ErrFull)
	}
	applies(t, s, api.Delta{SetNodes: list(to(1, "a", null)), SetEdges: list(to(1, "z", yes))}, nil, nil)
	applies(t, s, api.Delta{SetEdges: list(to(1, "a", null), to(1, "b", yes)), NewNodes: list(nd(-1, "b", pr("a", yes)))}, list[int64](2), nil)
	applies(t, s, api.Delta{SetNodes: list(to(1, "b", null)), NewEdges: list(ed(-1, "t", 1, 2, pr("a", yes)))}, nil, list[int64](2))
	applies(t, s, api.Delta{DelEdges: list[int64](1, 2), DelNodes: list[int64](1), NewNodes: list(nd(-1, "a", numbered(3)...))}, list[int64](1), nil)
	tells(t, s, api.Graph{Nodes: list(nd(1, "a", numbered(3)...), nd(2, "b", pr("a", yes)))})
}

// TestP705FullOfKeys: the index is full where the properties are not.
func TestP705FullOfKeys(t *testing.T) {
	z := api.Sizes{Node: 1, Edge: 1, Prop: 5, Tree: 3}
	d, s := grown(t, 60, z, api.Delta{NewNodes: list(nd(-1, "a", numbered(2)...), nd(-2, "a", numbered(1)...)), NewEdges: list(ed(-1, "t", -1, -1, numbered(2)...))})
	for _, x := range []api.Delta{
		{SetNodes: list(to(1, "z", yes))}, {NewNodes: list(nd(-1, "a", pr("a", yes)))}, {SetNodes: list(to(1, "z", yes)), SetEdges: list(to(1, "a", null))},
		{DelNodes: list[int64](2), NewNodes: list(nd(-1, "a", numbered(2)...))}, {SetNodes: list(to(1, "z", null), to(2, "b", yes))},
	} {
		refuses(t, d, s, x, api.ErrFull)
	}
	applies(t, s, api.Delta{SetEdges: list(to(1, "z", yes)), SetNodes: list(to(1, "a", num(7)))}, nil, nil)
	applies(t, s, api.Delta{SetNodes: list(to(1, "a", null), to(1, "b", null), to(2, "b", yes)), NewNodes: list(nd(-1, "b", pr("k", str("x"))))}, list[int64](3), nil)
	applies(t, s, api.Delta{DelNodes: list[int64](2), SetNodes: list(to(1, "c", yes), to(1, "d", yes))}, nil, nil)
	refuses(t, d, s, api.Delta{SetNodes: list(to(1, "e", yes))}, api.ErrFull)
}

// TestP705Dead: the form is told ahead of ErrPower, all else behind it; nothing is done.
func TestP705Dead(t *testing.T) {
	for _, held := range []bool{false, true} {
		d, s := grown(t, 60, wide, rich)
		off(t, d, s)
		still := unmoved(t, d, s)
		for _, c := range []struct {
			x    api.Delta
			want api.Errno
		}{
			{api.Delta{DelEdges: list[int64](0)}, api.ErrDelta}, {api.Delta{NewNodes: list(nd(-1, ""))}, api.ErrName}, {api.Delta{SetNodes: list(to(1, "a", toNode(1)))}, api.ErrProps},
			{api.Delta{}, api.ErrPower}, {api.Delta{DelEdges: list[int64](99)}, api.ErrPower}, {api.Delta{DelNodes: list[int64](1)}, api.ErrPower}, {nodesOf(99), api.ErrPower}, {nodesOf(1), api.ErrPower},
		} {
			a, code := s.Apply(c.x, held, true)
			wants(t, "Apply", code, c.want)
			same(t, "Apply", a, api.Applied{})
		}
		still()
	}
}
