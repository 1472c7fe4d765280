package rules_test

import (
	"fmt"
	"reflect"
	"runtime"
	"sync"
	"testing"
	"time"

	"trellis/api"
	"trellis/rules"
)

// scribbled: a graph of anything.
func (d draw) scribbled() (g api.Graph) {
	g = d.graph(d.one(2))
	id := func() int64 { return pick(d, int64(0), 1, 2, 3, -1, 7, -1<<63, 1<<63-1) }
	name := func() string { return pick(d, "", "a", "rule", "Rule", "\xff", "abcdefghij", "kind") }
	val := func() api.Val {
		return pick(d, d.val(), api.Val{Kind: d.Intn(12) - 3, A: id(), B: id(), S: name()})
	}
	for range 1 + d.Intn(3) {
		switch d.Intn(8) {
		case 0:
			g.Nodes[d.Intn(len(g.Nodes))].Id = id()
		case 1:
			g.Nodes[d.Intn(len(g.Nodes))].Label = name()
		case 2:
			n := &g.Nodes[d.Intn(len(g.Nodes))]
			n.Props = append(n.Props, api.Prop{Key: name(), Val: val()})
		case 3:
			g.Edges = append(g.Edges, api.Edge{Id: id(), Type: name(), From: id(), To: id(), Props: []api.Prop{{Key: name(), Val: val()}}})
		case 4:
			d.Shuffle(len(g.Nodes), func(i, j int) { g.Nodes[i], g.Nodes[j] = g.Nodes[j], g.Nodes[i] })
		case 5:
			g.Nodes = append(g.Nodes, api.Node{Id: id(), Label: "rule", Props: []api.Prop{{Key: "kind", Val: val()}, {Key: "of", Val: val()}}})
		case 6:
			if len(g.Edges) > 0 {
				e := &g.Edges[d.Intn(len(g.Edges))]
				e.From, e.To = id(), id()
			}
		case 7:
			n := &g.Nodes[d.Intn(len(g.Nodes))]
			for i := range n.Props {
				n.Props[i].Val = val()
			}
		}
	}
	return g
}

// TestP1801Wild: any graph, any rule: no panic, the same answer again, nothing beside OK, false and ErrGraph.
func TestP1801Wild(t *testing.T) {
	none := 0
	for seed := range int64(20000) {
		d := newDraw(seed)
		g := d.scribbled()
		what := fmt.Sprintf("seed %d: %+v", seed, g)
		list, at, code := rules.Read(g)
		reads(t, what, g, list, at, code)
		by, fault := rules.Check(g)
		checks(t, what, g, by, fault)
		if code == api.ErrGraph {
			none++
		}
		if (code == api.ErrGraph) != (fault == api.ErrGraph) || (code == api.OK || code == api.ErrGraph) && at != (api.Breach{}) || (fault == api.OK || fault == api.ErrGraph) && by != (api.Breach{}) || code != api.OK && len(list) > 0 {
			t.Errorf("%s: Read %v %v %d, Check %v %d", what, list, at, code, by, fault)
		}
		r := api.Rule{Id: d.Int63(), Kind: d.Intn(9) - 1, Of: pick(d, "a", "t", "rule", ""), Key: pick(d, "", "k", "K"), Is: d.Intn(7) - 1, From: pick(d, "", "a"), To: pick(d, "", "b"), N: int64(d.Intn(4) - 1)}
		if d.one(2) {
			r.Key, r.Is, r.From, r.To, r.N = "", 0, "", "", 0
		}
		by, is := rules.Broken(g, r)
		if !is && by != (api.Breach{}) || is && (by.Rule != r.Id || (by.Node == 0) == (by.Edge == 0)) || is && code == api.ErrGraph {
			t.Errorf("%s: Broken(%+v) = %v, %v", what, r, by, is)
		}
	}
	if none < 5000 || none > 19000 {
		t.Errorf("%d of 20000 are no graphs", none)
	}
}

// TestP1801Again: what was asked ahead does not matter; and calls at one time do not disturb each other.
func TestP1801Again(t *testing.T) {
	all, _ := sixRules()
	var graphs []api.Graph
	for i, of := range all {
		g := brokenGraph()
		g.Nodes = append(g.Nodes, says(int64(11+i), of...), says(40, "kind", "order", "of", "rail"))
		graphs = append(graphs, g, chapter(nil), noGraphs()[i])
	}
	type answer struct {
		by   api.Breach
		code api.Errno
	}
	want := make([]answer, len(graphs))
	for i, g := range graphs {
		want[i].by, want[i].code = rules.Check(g)
	}
	var wait sync.WaitGroup
	for range 8 {
		wait.Go(func() {
			for i, g := range graphs {
				by, code := rules.Check(g)
				if (answer{by, code}) != want[i] {
					t.Errorf("graph %d: %v %d, want %v", i, by, code, want[i])
				}
			}
		})
	}
	wait.Wait()
}

// TestP1801Joined: behind a call all that it has begun has ended.
func TestP1801Joined(t *testing.T) {
	g := brokenGraph()
	for i := range 500 {
		g.Nodes = append(g.Nodes, says(int64(11+i), right[i%len(right)]...))
	}
	before := runtime.NumGoroutine()
	for range 20 {
		rules.Check(g)
	}
	// One that has told that it is done may still be on its way out.
	for range 100 {
		if runtime.NumGoroutine() <= before {
			return
		}
		time.Sleep(time.Millisecond)
	}
	t.Errorf("%d goroutines ahead, %d behind", before, runtime.NumGoroutine())
}

// deep: a copy of the graph in which each list has spare room.
func deep(g api.Graph) api.Graph {
	room := func(list []api.Prop) []api.Prop {
		return append(make([]api.Prop, 0, len(list)+2), list...)
	}
	out := api.Graph{Nodes: append(make([]api.Node, 0, len(g.Nodes)+2), g.Nodes...), Edges: append(make([]api.Edge, 0, len(g.Edges)+2), g.Edges...)}
	for i := range out.Nodes {
		out.Nodes[i].Props = room(out.Nodes[i].Props)
	}
	for i := range out.Edges {
		out.Edges[i].Props = room(out.Edges[i].Props)
	}
	return out
}

// TestP1801Kept: what is handed in is not changed, nor is its spare room; what is handed out is new memory.
func TestP1801Kept(t *testing.T) {
	for seed := range int64(300) {
		g := deep(newDraw(seed).graph(seed%2 == 0))
		h := deep(g)
		list, _, _ := rules.Read(g)
		rules.Check(g)
		for _, r := range list {
			rules.Broken(g, r)
		}
		if !reflect.DeepEqual(g, h) || !reflect.DeepEqual(g.Nodes[:cap(g.Nodes)], h.Nodes[:cap(h.Nodes)]) || !reflect.DeepEqual(g.Edges[:cap(g.Edges)], h.Edges[:cap(h.Edges)]) {
			t.Fatalf("seed %d: the graph has changed", seed)
		}
		for i := range g.Nodes {
			a, b := g.Nodes[i].Props, h.Nodes[i].Props
			if !reflect.DeepEqual(a[:cap(a)], b[:cap(b)]) {
				t.Fatalf("seed %d: spare room of node %d has changed", seed, i)
			}
		}
		want := fmt.Sprint(list)
		again, _, _ := rules.Read(g)
		for i := range again {
			again[i] = api.Rule{}
		}
		_ = append(again, api.Rule{Id: 5})
		g.Nodes[0] = api.Node{}
		if got := fmt.Sprint(list); got != want {
			t.Fatalf("seed %d: an answer has changed: %s, was %s", seed, got, want)
		}
	}
}

// TestP1801Long: a way of many nodes, a ring at its end, many edges side by side: it ends soon, and no stack is too small for it.
func TestP1801Long(t *testing.T) {
	const n = 200000
	r := api.Rule{Id: 1, Kind: api.RuOrder, Of: "above"}
	var g api.Graph
	for i := range int64(n) {
		g.Nodes = append(g.Nodes, nd(i+1, "a"))
		if i > 0 {
			g.Edges = append(g.Edges, ed(i, "above", i, i+1))
		}
	}
	breaks(t, "a long way", g, r, api.Breach{})
	breaks(t, "edges out", g, api.Rule{Id: 1, Kind: api.RuMost, Of: "above", N: 1}, api.Breach{})
	g.Edges = append(g.Edges, ed(n, "above", n, n-2))
	breaks(t, "a ring at its end", g, r, api.Breach{Rule: 1, Node: n - 2})
	g.Edges = append(g.Edges, ed(n+1, "above", n, 1))
	breaks(t, "one great ring", g, r, api.Breach{Rule: 1, Node: 1})
	for i := range g.Edges { // all out of one node, to one node
		g.Edges[i].From, g.Edges[i].To = 1, 2
	}
	breaks(t, "side by side", g, r, api.Breach{})
	breaks(t, "edges out", g, api.Rule{Id: 1, Kind: api.RuMost, Of: "above", N: n}, api.Breach{Rule: 1, Node: 1})
	breaks(t, "edges out", g, api.Rule{Id: 1, Kind: api.RuMost, Of: "above", N: n + 1}, api.Breach{})
}

func TestP1801Nothing(t *testing.T) {
	checks(t, "the empty graph", api.Graph{}, api.Breach{}, api.OK)
	breaks(t, "no rule", api.Graph{}, api.Rule{}, api.Breach{})
	breaks(t, "no rule", chapter(nil), api.Rule{}, api.Breach{})
}
