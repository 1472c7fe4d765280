package rules_test

import (
	"testing"

	"trellis/api"
)

// right: what a node says that says a rule, by kind: the row's properties in turn.
var right = [][]any{
	{"kind", "unique", "of", "city", "key", "name"},
	{"kind", "needs", "of", "city", "key", "name"},
	{"kind", "only", "of", "city", "key", "name", "type", "int"},
	{"kind", "link", "of", "road", "from", "city", "to", "town"},
	{"kind", "most", "of", "road", "n", 3},
	{"kind", "order", "of", "road"},
}

// with: the properties with that one given another value.
func with(of []any, key string, v any) []any {
	out := append([]any(nil), of...)
	for i := 0; i < len(out); i += 2 {
		if out[i] == key {
			out[i+1] = v
			return out
		}
	}
	return append(out, key, v)
}

func TestP1802Kinds(t *testing.T) {
	for i, want := range []api.Rule{
		{Kind: 1, Of: "city", Key: "name"},
		{Kind: 2, Of: "city", Key: "name"},
		{Kind: 3, Of: "city", Key: "name", Is: 2},
		{Kind: 4, Of: "road", From: "city", To: "town"},
		{Kind: 5, Of: "road", N: 3},
		{Kind: 6, Of: "road"},
	} {
		aRule(t, want, right[i]...)
	}
	for is, word := range []string{1: "bool", 2: "int", 3: "complex", 4: "string"} {
		if is > 0 {
			aRule(t, api.Rule{Kind: 3, Of: "a", Key: "b", Is: is}, "kind", "only", "of", "a", "key", "b", "type", word)
		}
	}
	aRule(t, api.Rule{Kind: 5, Of: "a"}, "kind", "most", "of", "a", "n", 0)
	aRule(t, api.Rule{Kind: 5, Of: "a", N: 1<<63 - 1}, "kind", "most", "of", "a", "n", num(1<<63-1))
	aRule(t, api.Rule{Kind: 4, Of: "a1234567", From: "z9", To: "rule"}, "kind", "link", "of", "a1234567", "from", "z9", "to", "rule")
	aRule(t, api.Rule{Kind: 1, Of: "rule", Key: "kind"}, "kind", "unique", "of", "rule", "key", "kind")
}

// TestP1802Missing: each property of each row is needed.
func TestP1802Missing(t *testing.T) {
	for _, of := range right {
		for i := 0; i < len(of); i += 2 {
			less := append(append([]any(nil), of[:i]...), of[i+2:]...)
			noRule(t, less...)
			noRule(t, with(less, "extra", of[i+1])...) // as many as there must be
		}
	}
}

// TestP1802TooMany: no other property may stand there, not even one of another row, or with a value that counts for nothing.
func TestP1802TooMany(t *testing.T) {
	further := map[string][]any{
		"key": {"name", ""}, "type": {"int", ""}, "from": {"city", ""}, "to": {"city", ""}, "n": {0, 1}, "extra": {"", 0}, "name": {"x"}, "kinds": {"unique"},
	}
	for _, of := range right {
		for key, values := range further {
			if len(with(of, key, "x")) == len(of) {
				continue
			}
			for _, v := range values {
				noRule(t, with(of, key, v)...)
			}
		}
	}
	// One in the place of another.
	noRule(t, "kind", "most", "of", "road", "key", "")
	noRule(t, "kind", "most", "of", "road", "type", "")
	noRule(t, "kind", "most", "of", "road", "key", "name")
	noRule(t, "kind", "unique", "of", "city", "n", 0)
	noRule(t, "kind", "unique", "of", "city", "type", "int")
	noRule(t, "kind", "link", "of", "road", "from", "city", "key", "name")
	noRule(t, "kind", "only", "of", "city", "key", "name", "n", 2)
}

// TestP1802Values: values of another kind, or none that may stand there.
func TestP1802Values(t *testing.T) {
	others := []any{num(1), cpx(1, 0), yes(), no(), "", "A", "a b", "abcdefghi", "1a", "a_b", "é", "a\x00"}
	for _, of := range right {
		for _, key := range []string{"kind", "of", "key", "from", "to"} {
			if len(with(of, key, "x")) > len(of) {
				continue
			}
			for _, v := range others {
				noRule(t, with(of, key, v)...)
			}
		}
	}
	for _, word := range []any{"Unique", "uniq", "unique ", "rule", "a", "bool"} {
		noRule(t, with(right[0], "kind", word)...)
	}
	for _, word := range []any{"", "null", "node", "edge", "Int", "ints", "cpx", "str", "unique", num(2), yes(), cpx(2, 0)} {
		noRule(t, with(right[2], "type", word)...)
	}
	for _, n := range []any{-1, num(-1 << 63), "1", "", yes(), no(), cpx(1, 0), cpx(0, 0)} {
		noRule(t, with(right[4], "n", n)...)
	}
	// A kind that has just these properties, but is not what the word says.
	noRule(t, with(right[0], "kind", "only")...)
	noRule(t, with(right[0], "kind", "order")...)
	noRule(t, with(right[5], "kind", "most")...)
	noRule(t, with(right[2], "kind", "link")...)
	noRule(t, with(right[3], "kind", "only")...)
}

// TestP1802Least: of several nodes that say no rule the least id is told; those ahead of it that say one are not.
func TestP1802Least(t *testing.T) {
	g := chapter([]api.Node{nd(6, "city"), says(7, right[5]...), says(8), says(9, "kind", "x"), says(10, right[0]...)})
	reads(t, "two that say none", g, nil, api.Breach{Node: 8}, api.ErrNoRule)
	checks(t, "two that say none", g, api.Breach{Node: 8}, api.ErrNoRule)
}

// TestP1802Order: rising by id, whatever kinds they are; nodes of other labels say nothing, whatever they have.
func TestP1802Order(t *testing.T) {
	var g api.Graph
	for i, of := range right {
		g.Nodes = append(g.Nodes, says(int64(20-3*len(right)+3*i), right[len(right)-1-i]...), nd(int64(21-3*len(right)+3*i), "city", of...))
	}
	g.Nodes = append(g.Nodes, nd(60, "rules", right[0]...), nd(61, "rul", "kind", "no"))
	want := []api.Rule{
		{Id: 2, Kind: 6, Of: "road"}, {Id: 5, Kind: 5, Of: "road", N: 3}, {Id: 8, Kind: 4, Of: "road", From: "city", To: "town"},
		{Id: 11, Kind: 3, Of: "city", Key: "name", Is: 2}, {Id: 14, Kind: 2, Of: "city", Key: "name"}, {Id: 17, Kind: 1, Of: "city", Key: "name"},
	}
	reads(t, "all kinds", g, want, api.Breach{}, api.OK)
	reads(t, "no rules", plain("city", "town"), nil, api.Breach{}, api.OK)
	reads(t, "nothing", api.Graph{}, nil, api.Breach{}, api.OK)
}

// TestP1802NoGraph: ErrGraph, ahead of a node that says no rule.
func TestP1802NoGraph(t *testing.T) {
	for _, g := range noGraphs() {
		reads(t, "no graph", g, nil, api.Breach{}, api.ErrGraph)
		checks(t, "no graph", g, api.Breach{}, api.ErrGraph)
		g.Nodes[3].Props = nil
		reads(t, "no graph, no rule", g, nil, api.Breach{}, api.ErrGraph)
		checks(t, "no graph, no rule", g, api.Breach{}, api.ErrGraph)
	}
}
