package records_test

import (
	"math"
	"testing"

	"trellis/api"
	"trellis/records"
)

// The store is a view.
var _ api.View = (*records.Store)(nil)

// TestP708Commits: of an empty store, and of a dead one.
func TestP708Commits(t *testing.T) {
	d, s := grown(t, 60, wide)
	counts(t, s, 0)
	for i := range int64(3) {
		applies(t, s, nodesOf(1), list(i+1), nil)
		counts(t, s, i+1)
	}
	off(t, d, s)
	n, code := s.Commits()
	wants(t, "Commits", code, api.ErrPower)
	same(t, "Commits", n, 0)
}

// TestP709Nodes: by label; names alone.
func TestP709Nodes(t *testing.T) {
	d, s := grown(t, 60, wide, rich, api.Delta{NewNodes: list(nd(-1, "city"), nd(-2, "town"))})
	noded(t, s, "", 1, 2, 3, 4, 5)
	noded(t, s, "city", 1, 2, 4)
	noded(t, s, "town", 3, 5)
	noded(t, s, "cit")
	noded(t, s, "road")
	for range 2 {
		for _, bad := range noNames[1:] {
			got, code := s.Nodes(bad)
			wants(t, "Nodes of "+bad, code, api.ErrName)
			same(t, "Nodes", got, []int64{})
		}
		if s.Reserve() == api.ErrPower {
			break
		}
		off(t, d, s)
	}
	for _, label := range []string{"", "city", "none"} {
		got, code := s.Nodes(label)
		wants(t, "Nodes", code, api.ErrPower)
		same(t, "Nodes", got, []int64{})
	}
}

// TestP710Find: by just the value: of its kind, and beyond the eight bytes of a key.
func TestP710Find(t *testing.T) {
	x := api.Delta{NewNodes: list(
		nd(-1, "a", pr("k", num(3)), pr("m", yes)), nd(-2, "a", pr("k", cpx(3, 0))), nd(-3, "a", pr("k", num(3)), pr("m", no)), nd(-4, "b", pr("k", num(3))), nd(-5, "a", pr("m", num(3))),
		nd(-6, "a", pr("k", str("0123456789"))), nd(-7, "a", pr("k", str("0123456780"))), nd(-8, "a", pr("k", str("0123456"))), nd(-9, "a", pr("k", str("01234567"))), nd(-10, "a", pr("k", str("0123456789"))),
		nd(-11, "a", pr("k", num(1<<62))), nd(-12, "a", pr("k", num(1<<62+1))), nd(-13, "a", pr("k", str("")), pr("m", yes)),
	)}
	d, s := grown(t, 60, wide, x)
	tells(t, s, api.Graph{Nodes: positive(x.NewNodes)})
	found(t, s, "a", "k", num(3), 1, 3)
	found(t, s, "a", "k", cpx(3, 0), 2)
	found(t, s, "a", "k", str("0123456789"), 6, 10)
	found(t, s, "a", "k", str("0123456780"), 7)
	found(t, s, "a", "k", str("012345678"))
	found(t, s, "a", "k", num(1<<62), 11)
	found(t, s, "a", "k", num(1<<62+2))
	found(t, s, "a", "m", yes, 1, 13)
	found(t, s, "c", "k", num(3))
	found(t, s, "a", "z", num(3))
	for _, v := range []api.Val{null, toNode(1), toEdge(1), toNode(-1)} {
		found(t, s, "a", "k", v)
	}
	for range 2 {
		findFaults(t, s)
		if s.Reserve() == api.ErrPower {
			break
		}
		off(t, d, s)
	}
	for _, v := range []api.Val{num(3), num(99), null, toNode(1)} {
		got, code := s.Find("a", "k", v)
		wants(t, "Find", code, api.ErrPower)
		same(t, "Find", got, []int64{})
	}
}

// positive: the new nodes under the ids that they get in an empty store.
func positive(made []api.Node) (out []api.Node) {
	for i, n := range made {
		n.Id = int64(i + 1)
		out = append(out, n)
	}
	return out
}

// findFaults: of the arguments, whether the store is dead or not.
func findFaults(t *testing.T, s *records.Store) {
	t.Helper()
	fails := func(label, key string, v api.Val, want api.Errno) {
		t.Helper()
		got, code := s.Find(label, key, v)
		wants(t, "Find of "+label+", "+key, code, want)
		same(t, "Find", got, []int64{})
	}
	for _, bad := range noNames {
		fails(bad, "k", num(3), api.ErrName)
		fails("a", bad, num(3), api.ErrName)
		fails(bad, bad, api.Val{Kind: 9}, api.ErrName)
	}
	for _, v := range noVals {
		fails("a", "k", v, api.ErrVal)
	}
}

// TestP711Ids: ids out of the store's range are told ahead of ErrPower, others behind it.
func TestP711Ids(t *testing.T) {
	d, s := grown(t, 60, wide, rich)
	edgeless := func(id int64, want api.Errno) {
		t.Helper()
		e, code := s.Edge(id)
		wants(t, "Edge", code, want)
		same(t, "Edge", e, api.Edge{})
	}
	far := append([]int64{21, 22, math.MaxInt64 - 1}, farIds...)
	for range 2 {
		for _, id := range far {
			unread(t, s, id, api.ErrNoNode)
		}
		for _, id := range append([]int64{19, 20}, farIds...) {
			edgeless(id, api.ErrNoEdge)
		}
		if s.Reserve() == api.ErrPower {
			break
		}
		unread(t, s, 4, api.ErrNoNode)
		unread(t, s, 20, api.ErrNoNode)
		edgeless(4, api.ErrNoEdge)
		edgeless(18, api.ErrNoEdge)
		off(t, d, s)
	}
	for _, id := range []int64{1, 4, 18} {
		unread(t, s, id, api.ErrPower)
		edgeless(id, api.ErrPower)
	}
}

// TestP711Edges: a loop stands in both; both rise, whatever the chain.
func TestP711Edges(t *testing.T) {
	_, s := grown(t, 60, wide, rich, api.Delta{DelEdges: list[int64](2)}, api.Delta{NewEdges: list(ed(-1, "x", 3, 1), ed(-2, "x", 1, 3), ed(-3, "x", 3, 3))})
	outed(t, s, 1, 1, 4)
	inned(t, s, 1, 2)
	outed(t, s, 2)
	inned(t, s, 2, 1)
	outed(t, s, 3, 2, 3, 5)
	inned(t, s, 3, 3, 4, 5)
}

// TestP712Graph: of an empty store, and of a dead one.
func TestP712Graph(t *testing.T) {
	d, s := grown(t, 60, wide)
	tells(t, s, api.Graph{})
	applies(t, s, rich, list[int64](1, 2, 3), list[int64](1, 2, 3))
	tells(t, s, api.Graph{
		Nodes: list(nd(1, "city", pr("name", str("ulm")), pr("pop", num(5))), nd(2, "city", pr("pop", num(5))), nd(3, "town")),
		Edges: list(ed(1, "road", 1, 2, pr("len", num(9))), ed(2, "road", 2, 1), ed(3, "ring", 3, 3)),
	})
	off(t, d, s)
	g, code := s.Graph()
	wants(t, "Graph", code, api.ErrPower)
	same(t, "Graph", g, api.Graph{})
}

// TestP712Hold: whatever is asked for, of a dead store too.
func TestP712Hold(t *testing.T) {
	d, s := grown(t, 60, wide)
	for range 2 {
		for _, r := range []api.Res{{}, {Level: 9}, {Level: api.RNode, Id: 1}, {Level: api.RLabel, Label: "A"}} {
			for _, mode := range []int{0, 1, 5, 6, -1, math.MinInt} {
				wants(t, "Hold", s.Hold(r, mode), api.OK)
			}
		}
		if s.Reserve() == api.ErrPower {
			break
		}
		off(t, d, s)
	}
}

// TestP708To712Still: reading changes nothing and writes nothing, by whatever is asked.
func TestP708To712Still(t *testing.T) {
	d, s := grown(t, 60, wide, rich)
	still := unmoved(t, d, s)
	for range 2 {
		tells(t, s, must(s.Graph()))
		for _, bad := range noNames {
			s.Nodes(bad)
			s.Find(bad, "k", yes)
		}
		for _, id := range farIds {
			s.Node(id)
			s.Edge(id)
			s.Out(id)
			s.In(id)
		}
		s.Hold(api.Res{}, 9)
	}
	still()
}

// TestP709To712Home: what is read is the same from the pages' homes, from the log, and behind an opening.
func TestP709To712Home(t *testing.T) {
	d, s := grown(t, 60, wide, rich)
	g := must(s.Graph())
	for most := range 8 {
		_, code := s.Checkpoint(most)
		wants(t, "Checkpoint", code, api.OK)
		tells(t, s, g)
		if most%3 == 0 {
			s = opens(t, d)
			tells(t, s, g)
			counts(t, s, 1)
		}
	}
}
