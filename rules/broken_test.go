package rules_test

import (
	"fmt"
	"testing"

	"trellis/api"
)

func TestP1803Unique(t *testing.T) {
	r := api.Rule{Id: 70, Kind: api.RuUnique, Of: "c", Key: "k"}
	for _, x := range []struct {
		nodes []api.Node
		by    int64
	}{
		{nil, 0},
		{[]api.Node{nd(1, "c", "k", 1), nd(2, "c", "k", 2), nd(3, "c")}, 0},
		{[]api.Node{nd(1, "c", "k", 1), nd(2, "c", "k", 1)}, 2},
		{[]api.Node{nd(1, "c", "k", 1), nd(2, "c", "k", 2), nd(4, "c", "k", 2), nd(7, "c", "k", 1), nd(8, "c", "k", 1)}, 4},
		{[]api.Node{nd(1, "c", "k", 1), nd(2, "d", "k", 1), nd(3, "c", "j", 1), nd(9, "c", "k", 1)}, 9},
		{[]api.Node{nd(1, "d", "k", 1), nd(2, "d", "k", 1), nd(3, "c", "k", 1)}, 0},
		{[]api.Node{nd(1, "c"), nd(2, "c"), nd(3, "c", "j", 1), nd(4, "c", "j", 1)}, 0},
		{[]api.Node{nd(1, "c", "k", 1), nd(2, "c", "k", cpx(1, 0)), nd(3, "c", "k", "1"), nd(4, "c", "k", yes()), nd(5, "c", "k", ""), nd(6, "c", "k", no()), nd(7, "c", "k", 0), nd(8, "c", "k", cpx(1, 1))}, 0},
		{[]api.Node{nd(3, "c", "k", cpx(1, 2)), nd(5, "c", "k", cpx(1, 2))}, 5},
		{[]api.Node{nd(3, "c", "k", no()), nd(5, "c", "k", no())}, 5},
		{[]api.Node{nd(3, "c", "k", "x"), nd(5, "c", "k", "x")}, 5},
		{[]api.Node{nd(3, "c", "j", 5, "k", "x"), nd(5, "c", "j", 5, "k", "y")}, 0},
	} {
		breaks(t, fmt.Sprint(x.nodes), api.Graph{Nodes: x.nodes}, r, nodeBreach(70, x.by))
	}
}

// nodeBreach: zero, if there is no node.
func nodeBreach(rule, node int64) api.Breach {
	if node == 0 {
		return api.Breach{}
	}
	return api.Breach{Rule: rule, Node: node}
}

func TestP1803Needs(t *testing.T) {
	r := api.Rule{Id: -3, Kind: api.RuNeeds, Of: "c", Key: "k"}
	breaks(t, "none", api.Graph{}, r, api.Breach{})
	breaks(t, "all have it", api.Graph{Nodes: []api.Node{nd(1, "c", "k", no()), nd(2, "c", "a", 1, "k", "", "z", 1), nd(3, "d")}}, r, api.Breach{})
	breaks(t, "two lack it", api.Graph{Nodes: []api.Node{nd(1, "c", "k", 1), nd(2, "d"), nd(4, "c", "j", 1, "kk", 2), nd(5, "c")}}, r, api.Breach{Rule: -3, Node: 4})
}

func TestP1803Only(t *testing.T) {
	of := map[int]api.Node{api.KBool: nd(2, "c", "k", no()), api.KInt: nd(3, "c", "j", "a", "k", 1), api.KCpx: nd(5, "c", "k", cpx(1, 0)), api.KStr: nd(6, "c", "k", "")}
	for is := range of {
		r := api.Rule{Kind: api.RuOnly, Of: "c", Key: "k", Is: is}
		for kind, n := range of {
			g := api.Graph{Nodes: []api.Node{nd(1, "c"), n, nd(7, "d", "k", n.Props[len(n.Props)-1].Val), nd(8, "c", "j", 1)}}
			want := api.Breach{Node: n.Id}
			if kind == is {
				want = api.Breach{}
			}
			breaks(t, fmt.Sprintf("%d for %d", kind, is), g, r, want)
		}
	}
	all := api.Graph{Nodes: []api.Node{nd(1, "d", "k", 1), of[api.KBool], of[api.KInt], of[api.KStr]}}
	breaks(t, "the first", all, api.Rule{Id: 8, Kind: api.RuOnly, Of: "c", Key: "k", Is: api.KBool}, api.Breach{Rule: 8, Node: 3})
	breaks(t, "the first", all, api.Rule{Id: 8, Kind: api.RuOnly, Of: "c", Key: "k", Is: api.KStr}, api.Breach{Rule: 8, Node: 2})
}

func TestP1803Link(t *testing.T) {
	r := api.Rule{Id: 5, Kind: api.RuLink, Of: "t", From: "a", To: "b"}
	g := api.Graph{Nodes: []api.Node{nd(2, "a"), nd(3, "b"), nd(7, "c"), nd(9, "a")}}
	breaks(t, "none", g, r, api.Breach{})
	g.Edges = []api.Edge{ed(1, "t", 2, 3), ed(4, "t", 9, 3), ed(6, "u", 3, 2), ed(7, "u", 7, 7)}
	breaks(t, "all right", g, r, api.Breach{})
	for _, ends := range [][2]int64{{3, 2}, {2, 2}, {3, 3}, {7, 3}, {2, 7}, {7, 7}, {2, 9}} {
		h := g
		h.Edges = append(append([]api.Edge(nil), g.Edges...), ed(8, "t", ends[0], ends[1]), ed(9, "t", 7, 7))
		breaks(t, fmt.Sprint(ends), h, r, api.Breach{Rule: 5, Edge: 8})
	}
	breaks(t, "both ends of one label", api.Graph{Nodes: g.Nodes, Edges: []api.Edge{ed(1, "t", 2, 9), ed(2, "t", 9, 9), ed(3, "t", 2, 3)}}, api.Rule{Id: 5, Kind: api.RuLink, Of: "t", From: "a", To: "a"}, api.Breach{Rule: 5, Edge: 3})
}

func TestP1803Most(t *testing.T) {
	g := plain("a", "a", "b", "c")
	g.Edges = []api.Edge{ed(1, "t", 4, 1), ed(2, "t", 3, 3), ed(3, "t", 3, 4), ed(5, "u", 1, 2), ed(6, "u", 1, 2), ed(7, "t", 3, 4), ed(8, "t", 2, 1)}
	for n, by := range []int64{2, 3, 3, 0} { // out of 2: 1; of 3: 3; of 4: 1
		breaks(t, fmt.Sprint("at most ", n), g, api.Rule{Id: 1, Kind: api.RuMost, Of: "t", N: int64(n)}, nodeBreach(1, by))
	}
	breaks(t, "any number", g, api.Rule{Id: 1, Kind: api.RuMost, Of: "t", N: 1<<63 - 1}, api.Breach{})
	breaks(t, "another type", g, api.Rule{Id: 1, Kind: api.RuMost, Of: "u", N: 1}, api.Breach{Rule: 1, Node: 1})
	breaks(t, "no such type", g, api.Rule{Id: 1, Kind: api.RuMost, Of: "v"}, api.Breach{})
}

func TestP1803Order(t *testing.T) {
	for _, x := range []struct {
		ends []int64
		by   int64
	}{
		{nil, 0},
		{[]int64{1, 2, 2, 3, 1, 3, 4, 3}, 0},
		{[]int64{1, 1}, 1},
		{[]int64{5, 5}, 5},
		{[]int64{1, 2, 2, 1}, 1},
		{[]int64{1, 2, 2, 3, 3, 2}, 2},                   // 1 leads into it
		{[]int64{2, 3, 3, 2, 3, 1}, 2},                   // 1 is led to from it
		{[]int64{2, 3, 3, 2, 3, 1, 1, 4, 4, 5, 5, 4}, 2}, // 1 lies between two rings
		{[]int64{5, 6, 6, 5, 6, 1, 1, 4, 4, 2, 2, 4}, 2}, // so does 1 here
		{[]int64{4, 5, 5, 6, 6, 4, 1, 2, 2, 3}, 4},
		{[]int64{1, 2, 2, 3, 3, 4, 4, 5, 5, 6, 6, 3}, 3},
		{[]int64{6, 5, 5, 4, 4, 3, 3, 2, 2, 1, 1, 6}, 1},
		{[]int64{1, 2, 1, 2, 1, 2}, 0},       // side by side
		{[]int64{1, 2, 1, 3, 2, 4, 3, 4}, 0}, // two ways to one
		{[]int64{3, 4, 4, 3, 1, 3, 2, 4}, 3},
		{[]int64{2, 3, 3, 4, 4, 5, 5, 3, 5, 2}, 2},
		{[]int64{1, 2, 3, 2, 3, 1, 2, 4, 4, 3}, 1},
	} {
		g := plain("a", "b", "a", "b", "c", "d")
		g.Edges = above(x.ends...)
		breaks(t, fmt.Sprint(x.ends), g, api.Rule{Id: 9, Kind: api.RuOrder, Of: "above"}, nodeBreach(9, x.by))
		breaks(t, fmt.Sprint(x.ends), g, api.Rule{Id: 9, Kind: api.RuOrder, Of: "below"}, api.Breach{})
	}
}

// TestP1803TwoTypes: a ring of two types is none of one.
func TestP1803TwoTypes(t *testing.T) {
	g := plain("a", "a")
	g.Edges = []api.Edge{ed(1, "above", 1, 2), ed(2, "below", 2, 1)}
	breaks(t, "above", g, api.Rule{Id: 9, Kind: api.RuOrder, Of: "above"}, api.Breach{})
	breaks(t, "below", g, api.Rule{Id: 9, Kind: api.RuOrder, Of: "below"}, api.Breach{})
}

// TestP1803Stands: a rule that does not stand is broken by nothing; one that does is, by this graph.
func TestP1803Stands(t *testing.T) {
	g := api.Graph{
		Nodes: []api.Node{nd(1, "c", "k", 1), nd(2, "c", "k", 1), nd(3, "c", "j", "x")},
		Edges: []api.Edge{ed(1, "c", 1, 2), ed(2, "c", 2, 1)},
	}
	stand := []struct {
		r  api.Rule
		by api.Breach
	}{
		{api.Rule{Kind: 1, Of: "c", Key: "k"}, api.Breach{Node: 2}},
		{api.Rule{Kind: 2, Of: "c", Key: "k"}, api.Breach{Node: 3}},
		{api.Rule{Kind: 3, Of: "c", Key: "k", Is: 1}, api.Breach{Node: 1}},
		{api.Rule{Kind: 3, Of: "c", Key: "k", Is: 4}, api.Breach{Node: 1}},
		{api.Rule{Kind: 4, Of: "c", From: "c", To: "d"}, api.Breach{Edge: 1}},
		{api.Rule{Kind: 5, Of: "c"}, api.Breach{Node: 1}},
		{api.Rule{Kind: 6, Of: "c"}, api.Breach{Node: 1}},
	}
	noNames := []string{"", "C", "c d", "cdefghijk", "1", "c.", "\x00"}
	for _, x := range stand {
		for _, id := range []int64{0, 1, 77, -1, -1 << 63, 1<<63 - 1} {
			r, by := x.r, x.by
			r.Id, by.Rule = id, id
			breaks(t, "it stands", g, r, by)
		}
		fall := func(what string, r api.Rule) {
			t.Helper()
			breaks(t, fmt.Sprintf("%s: %+v", what, r), g, r, api.Breach{})
		}
		for _, kind := range []int{0, -1, 7, 8, 1 << 40, -1 << 63} {
			r := x.r
			r.Kind = kind
			fall("the kind", r)
		}
		for _, name := range noNames {
			r := x.r
			r.Of = name
			fall("of", r)
		}
		for _, f := range []struct {
			name string
			of   func(r *api.Rule) *string
		}{{"key", func(r *api.Rule) *string { return &r.Key }}, {"from", func(r *api.Rule) *string { return &r.From }}, {"to", func(r *api.Rule) *string { return &r.To }}} {
			r := x.r
			if *f.of(&r) == "" {
				*f.of(&r) = "c"
				fall(f.name+" too many", r)
				*f.of(&r) = "C"
				fall(f.name+" too many", r)
				continue
			}
			for _, name := range noNames {
				*f.of(&r) = name
				fall(f.name, r)
			}
		}
		for _, is := range []int{-1, 0, 1, 2, 5, 6, 1 << 40} {
			r := x.r
			if r.Is = is; x.r.Is == 0 && is != 0 || x.r.Is != 0 && (is < 1 || is > 4) {
				fall("is", r)
			}
		}
		for _, n := range []int64{-1, 1, -1 << 63, 1<<63 - 1} {
			r := x.r
			if r.N = n; x.r.Kind != 5 || n < 0 {
				fall("n", r)
			}
		}
	}
}

func TestP1803NoGraph(t *testing.T) {
	for _, g := range noGraphs() {
		for kind := range 8 {
			r := api.Rule{Id: 3, Kind: kind, Of: "city"}
			switch kind {
			case 1, 2:
				r.Key = "pop"
			case 3:
				r.Key, r.Is = "name", 2
			case 4:
				r.From, r.To, r.Of = "x", "y", "above"
			case 5:
				r.Of = "above"
			}
			breaks(t, "no graph", g, r, api.Breach{})
		}
	}
}

// TestP1803NotSaid: whether the graph says the rule, or says one at all, does not matter, nor whether it says nonsense.
func TestP1803NotSaid(t *testing.T) {
	g := chapter([]api.Node{says(5, "kind", "nonsense")})
	breaks(t, "a node that says no rule", g, api.Rule{Id: 5, Kind: api.RuNeeds, Of: "rule", Key: "of"}, api.Breach{Rule: 5, Node: 5})
	breaks(t, "a rule that is said", g, api.Rule{Id: 5, Kind: api.RuUnique, Of: "city", Key: "name"}, api.Breach{})
}
