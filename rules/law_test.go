package rules_test

import (
	"fmt"
	"testing"

	"trellis/api"
	"trellis/rules"
)

// TestP1805Drawn: Read, Check and Broken answer what the second reckoning does.
func TestP1805Drawn(t *testing.T) {
	codes := map[api.Errno]int{}
	broken := map[int]int{}
	for seed := range int64(20000) {
		d := newDraw(seed)
		g := d.graph(d.one(2))
		list, by, code := bookCheck(g)
		codes[code]++
		what := fmt.Sprintf("seed %d: %+v", seed, g)
		checks(t, what, g, by, code)
		if code == api.ErrNoRule {
			reads(t, what, g, nil, by, code)
		} else {
			reads(t, what, g, list, api.Breach{}, api.OK)
		}
		n := api.Node{Id: pick(d, int64(0), 7, -7), Label: "rule", Props: props(d.rule()...)}
		if r, says := bookRule(n); says {
			by, is := bookBroken(g, r)
			got, fault := rules.Broken(g, r)
			same(t, fmt.Sprintf("%s: %+v", what, r), []any{got, fault}, []any{by, is})
			if is {
				broken[r.Kind]++
			}
		}
		if t.Failed() {
			return
		}
	}
	if codes[api.OK] < 3000 || codes[api.ErrRule] < 3000 || codes[api.ErrNoRule] < 500 {
		t.Errorf("too few of one kind: %v", codes)
	}
	for kind := 1; kind <= 6; kind++ {
		if broken[kind] < 150 {
			t.Errorf("too few broken rules of the kind %d: %v", kind, broken)
		}
	}
}

// TestP1805Words: OK just if each rule holds by the words; and what a Breach names is among what breaks the rule.
func TestP1805Words(t *testing.T) {
	for seed := range int64(5000) {
		g := newDraw(seed).graph(false)
		by, code := rules.Check(g)
		list, _, fault := rules.Read(g)
		if fault != api.OK {
			continue
		}
		for _, r := range list {
			nodes, edges := bookBreakers(g, r)
			if code == api.OK && len(nodes)+len(edges) > 0 {
				t.Errorf("seed %d: OK, but %+v is broken by %v %v", seed, r, nodes, edges)
			}
			if r.Id != by.Rule {
				continue
			}
			found := false
			for _, id := range nodes {
				found = found || id == by.Node && by.Edge == 0
			}
			for _, id := range edges {
				found = found || id == by.Edge && by.Node == 0
			}
			if !found {
				t.Errorf("seed %d: %+v breaks nothing of %+v", seed, by, r)
			}
		}
	}
}

// TestP1806Drawn: a graph that keeps its rules still does when edges go, and nodes with all their edges.
func TestP1806Drawn(t *testing.T) {
	tried := 0
	for seed := range int64(8000) {
		d := newDraw(seed)
		g := d.graph(true)
		if _, code := rules.Check(g); code != api.OK {
			continue
		}
		for range 3 {
			less := d.less(g)
			checks(t, fmt.Sprintf("seed %d: %+v", seed, less), less, api.Breach{}, api.OK)
		}
		tried++
	}
	if tried < 2000 {
		t.Errorf("%d graphs that keep their rules are too few", tried)
	}
}

// TestP1807Drawn: other ids in the same order: the same answers, with these ids.
func TestP1807Drawn(t *testing.T) {
	for seed := range int64(5000) {
		d := newDraw(seed)
		g := d.graph(d.one(2))
		var nodes, edges []int64
		for _, n := range g.Nodes {
			nodes = append(nodes, n.Id)
		}
		for _, e := range g.Edges {
			edges = append(edges, e.Id)
		}
		newNode, newEdge := d.renamed(nodes), d.renamed(edges)
		var h api.Graph
		for _, n := range g.Nodes {
			n.Id = newNode[n.Id]
			h.Nodes = append(h.Nodes, n)
		}
		for _, e := range g.Edges {
			e.Id, e.From, e.To = newEdge[e.Id], newNode[e.From], newNode[e.To]
			h.Edges = append(h.Edges, e)
		}
		other := func(by api.Breach) api.Breach {
			return api.Breach{Rule: newNode[by.Rule], Node: newNode[by.Node], Edge: newEdge[by.Edge]}
		}
		by, code := rules.Check(g)
		what := fmt.Sprintf("seed %d", seed)
		checks(t, what, h, other(by), code)
		list, by, code := rules.Read(g)
		for i := range list {
			list[i].Id = newNode[list[i].Id]
		}
		reads(t, what, h, list, other(by), code)
		for _, r := range list {
			r.Id = 0
			by, _ := rules.Broken(g, r)
			breaks(t, what, h, r, other(by))
		}
	}
}
