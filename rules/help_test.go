package rules_test

import (
	"fmt"
	"slices"
	"testing"

	"trellis/api"
	"trellis/rules"
)

func num(n int64) api.Val    { return api.Val{Kind: api.KInt, A: n} }
func cpx(a, b int64) api.Val { return api.Val{Kind: api.KCpx, A: a, B: b} }
func str(s string) api.Val   { return api.Val{Kind: api.KStr, S: s} }
func yes() api.Val           { return api.Val{Kind: api.KBool, A: 1} }
func no() api.Val            { return api.Val{Kind: api.KBool} }

// props: keys and values in turn, in any order; a plain text is a string, a plain number an int.
func props(of ...any) (out []api.Prop) {
	for i := 0; i < len(of); i += 2 {
		p := api.Prop{Key: of[i].(string)}
		switch v := of[i+1].(type) {
		case string:
			p.Val = str(v)
		case int:
			p.Val = num(int64(v))
		case api.Val:
			p.Val = v
		}
		at, _ := slices.BinarySearchFunc(out, p.Key, func(q api.Prop, key string) int {
			switch {
			case q.Key < key:
				return -1
			case q.Key > key:
				return 1
			}
			return 0
		})
		out = slices.Insert(out, at, p)
	}
	return out
}

func nd(id int64, label string, of ...any) api.Node {
	return api.Node{Id: id, Label: label, Props: props(of...)}
}

// says: a node of the label rule.
func says(id int64, of ...any) api.Node { return nd(id, "rule", of...) }

func ed(id int64, kind string, from, to int64) api.Edge {
	return api.Edge{Id: id, Type: kind, From: from, To: to}
}

// above: edges of the type above, with the ids 1, 2, ..; from and to in turn.
func above(ends ...int64) (out []api.Edge) {
	for i := 0; i < len(ends); i += 2 {
		out = append(out, ed(int64(i/2+1), "above", ends[i], ends[i+1]))
	}
	return out
}

// chapter: the graph of the chapter's examples, with further nodes and edges.
func chapter(nodes []api.Node, edges ...api.Edge) api.Graph {
	return api.Graph{
		Nodes: append([]api.Node{
			says(1, "kind", "unique", "of", "city", "key", "name"),
			nd(2, "city", "name", "ulm"),
			nd(3, "city", "name", "bonn"),
			says(4, "kind", "order", "of", "above"),
		}, nodes...),
		Edges: append(above(2, 3), edges...),
	}
}

// plain: a graph of nodes that have nothing but their label, with the ids 1, 2, ..
func plain(labels ...string) (g api.Graph) {
	for i, label := range labels {
		g.Nodes = append(g.Nodes, nd(int64(i+1), label))
	}
	return g
}

// same: do the two tell the same? (A list that is nil tells the same as one without elements.)
func same(t *testing.T, what string, got, want any) {
	t.Helper()
	if g, w := fmt.Sprintf("%+v", got), fmt.Sprintf("%+v", want); g != w {
		t.Errorf("%s: %s, want %s", what, g, w)
	}
}

// reads: what Read must answer.
func reads(t *testing.T, what string, g api.Graph, list []api.Rule, by api.Breach, code api.Errno) {
	t.Helper()
	got, at, fault := rules.Read(g)
	same(t, what+": Read", []any{got, at, fault}, []any{list, by, code})
}

// checks: what Check must answer.
func checks(t *testing.T, what string, g api.Graph, by api.Breach, code api.Errno) {
	t.Helper()
	at, fault := rules.Check(g)
	same(t, what+": Check", []any{at, fault}, []any{by, code})
}

// breaks: the graph must break the rule, by that; with a zero Breach it must keep it.
func breaks(t *testing.T, what string, g api.Graph, r api.Rule, by api.Breach) {
	t.Helper()
	at, is := rules.Broken(g, r)
	same(t, what+": Broken", []any{at, is}, []any{by, by != api.Breach{}})
}

// noRule: the node 7 with these properties must say no rule.
func noRule(t *testing.T, of ...any) {
	t.Helper()
	g := api.Graph{Nodes: []api.Node{says(7, of...)}}
	reads(t, fmt.Sprint(of...), g, nil, api.Breach{Node: 7}, api.ErrNoRule)
	checks(t, fmt.Sprint(of...), g, api.Breach{Node: 7}, api.ErrNoRule)
}

// aRule: the node 7 with these properties must say that rule.
func aRule(t *testing.T, want api.Rule, of ...any) {
	t.Helper()
	want.Id = 7
	reads(t, fmt.Sprint(of...), api.Graph{Nodes: []api.Node{says(7, of...)}}, []api.Rule{want}, api.Breach{}, api.OK)
}

// noGraphs: what may not be loaded: the chapter's graph, spoilt.
func noGraphs() (out []api.Graph) {
	for _, spoil := range []func(*api.Graph){
		func(g *api.Graph) { g.Nodes[0].Id = 0 },
		func(g *api.Graph) { g.Nodes[1].Id = 3 },
		func(g *api.Graph) { g.Nodes[0], g.Nodes[1] = g.Nodes[1], g.Nodes[0] },
		func(g *api.Graph) { g.Nodes[1].Label = "City" },
		func(g *api.Graph) { g.Nodes[1].Label = "" },
		func(g *api.Graph) { g.Nodes[1].Props[0].Key = "Name" },
		func(g *api.Graph) { g.Nodes[1].Props[0].Val = api.Val{} },
		func(g *api.Graph) {
			g.Nodes[0].Props[0], g.Nodes[0].Props[1] = g.Nodes[0].Props[1], g.Nodes[0].Props[0]
		},
		func(g *api.Graph) { g.Nodes[2].Props = append(g.Nodes[2].Props, g.Nodes[2].Props[0]) },
		func(g *api.Graph) { g.Edges[0].Id = -1 },
		func(g *api.Graph) { g.Edges = append(g.Edges, g.Edges[0]) },
		func(g *api.Graph) { g.Edges[0].Type = "" },
		func(g *api.Graph) { g.Edges[0].From = 9 },
		func(g *api.Graph) { g.Edges[0].To = 0 },
		func(g *api.Graph) { g.Edges[0].Props = []api.Prop{{Key: "k", Val: api.Val{Kind: api.KNode, A: 1}}} },
	} {
		g := chapter(nil)
		spoil(&g)
		out = append(out, g)
	}
	return out
}
