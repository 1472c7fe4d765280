package space_test

import (
	"math"
	"testing"

	"trellis/api"
	"trellis/space"
)

// TestP1202Load: what is loaded is told again.
func TestP1202Load(t *testing.T) {
	far := int64(math.MaxInt64)
	for _, g := range []api.Graph{
		{}, {Nodes: []api.Node{}, Edges: []api.Edge{}}, chapter(), rich(),
		{Nodes: list(nd(far-1, "a"), nd(far, "abcdefgh")), Edges: list(ed(1, "t", far, far), ed(far, "z9", far-1, far))},
		{Nodes: list(nd(3, "a", pr("a", yes), pr("a0", no), pr("aa", num(math.MinInt64)), pr("b", cpx(-1<<25, 1<<25)), pr("c", str("")), pr("zzzzzzzz", str("12345678901234567890123456789012"))))},
	} {
		same(t, "Graph", loaded(t, g).Graph(), g)
	}
}

// TestP1202NoGraph: of each thing that a graph must be, one that it is not.
func TestP1202NoGraph(t *testing.T) {
	spoils := []func(g *api.Graph){
		func(g *api.Graph) { g.Nodes[0].Id = 0 }, func(g *api.Graph) { g.Nodes[0].Id = -1 }, func(g *api.Graph) { g.Nodes[0].Id = 2 }, func(g *api.Graph) { g.Nodes[4].Id = 5 },
		func(g *api.Graph) { g.Nodes[0].Id = math.MaxInt64 }, func(g *api.Graph) { g.Nodes[4].Id = math.MinInt64 }, func(g *api.Graph) { g.Nodes[0], g.Nodes[1] = g.Nodes[1], g.Nodes[0] },
		func(g *api.Graph) { g.Edges[0].Id = 0 }, func(g *api.Graph) { g.Edges[0].Id = -1 }, func(g *api.Graph) { g.Edges[0].Id = 2 }, func(g *api.Graph) { g.Edges[5].Id = 8 },
		func(g *api.Graph) { g.Edges[0].Id = math.MaxInt64 }, func(g *api.Graph) { g.Edges[5].Id = math.MinInt64 }, func(g *api.Graph) { g.Edges[3], g.Edges[4] = g.Edges[4], g.Edges[3] },
	}
	for _, id := range []int64{0, -1, 3, 5, 8, math.MaxInt64, math.MinInt64} {
		spoils = append(spoils, func(g *api.Graph) { g.Edges[0].From = id }, func(g *api.Graph) { g.Edges[5].To = id })
	}
	for _, name := range noNames {
		spoils = append(spoils, func(g *api.Graph) { g.Nodes[4].Label = name }, func(g *api.Graph) { g.Edges[1].Type = name })
		for _, props := range [][]api.Prop{list(pr(name, yes)), list(pr("a", yes), pr(name, yes))} {
			spoils = append(spoils, func(g *api.Graph) { g.Nodes[4].Props = props }, func(g *api.Graph) { g.Edges[1].Props = props })
		}
	}
	for _, props := range badProps() {
		spoils = append(spoils, func(g *api.Graph) { g.Nodes[4].Props = props }, func(g *api.Graph) { g.Edges[1].Props = props })
	}
	for i, spoil := range spoils {
		g := rich()
		spoil(&g)
		if m, code := space.Load(g); m != nil || code != api.ErrGraph {
			t.Errorf("Load of the spoilt graph %d = %v, %d, want ErrGraph", i, m, code)
		}
	}
	nowhere := api.Graph{Edges: list(ed(1, "t", 1, 1))}
	if m, code := space.Load(nowhere); m != nil || code != api.ErrGraph {
		t.Errorf("Load of an edge without nodes = %v, %d", m, code)
	}
}

// badProps: properties with names as keys that are not good: too many, out of order, of no storable value.
func badProps() [][]api.Prop {
	out := [][]api.Prop{numbered(9), numbered(20), list(pr("b", yes), pr("a", yes)), list(pr("a", yes), pr("a", yes)), list(pr("a", yes), pr("a", no)), list(pr("ab", yes), pr("a", yes)), list(pr("a", yes), pr("c", yes), pr("b", yes)), list(pr("a", null)), list(pr("a", yes), pr("b", null))}
	for _, v := range append(noVals, links...) {
		out = append(out, list(pr("a", v)), list(pr("a", yes), pr("b", v)))
	}
	return out
}
