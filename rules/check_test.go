package rules_test

import (
	"testing"

	"trellis/api"
)

// broken: a graph that breaks one rule of each kind, the rules with the ids 11 to 16, without these.
func brokenGraph() api.Graph {
	return api.Graph{
		Nodes: []api.Node{nd(1, "city", "name", "ulm"), nd(2, "city", "name", "ulm", "pop", "many"), nd(3, "town")},
		Edges: []api.Edge{ed(1, "road", 1, 2), ed(2, "road", 2, 1), ed(3, "road", 2, 3)},
	}
}

// sixRules: in the order of the kinds, each with what breaks it in brokenGraph.
func sixRules() ([][]any, []api.Breach) {
	return [][]any{
		{"kind", "unique", "of", "city", "key", "name"},
		{"kind", "needs", "of", "city", "key", "pop"},
		{"kind", "only", "of", "city", "key", "pop", "type", "int"},
		{"kind", "link", "of", "road", "from", "city", "to", "city"},
		{"kind", "most", "of", "road", "n", 1},
		{"kind", "order", "of", "road"},
	}, []api.Breach{{Node: 2}, {Node: 1}, {Node: 2}, {Edge: 3}, {Node: 2}, {Node: 1}}
}

// TestP1804Each: one rule of each kind that is broken.
func TestP1804Each(t *testing.T) {
	all, breaches := sixRules()
	for i, of := range all {
		g := brokenGraph()
		g.Nodes = append(g.Nodes, says(int64(11+i), of...))
		by := breaches[i]
		by.Rule = int64(11 + i)
		checks(t, of[1].(string), g, by, api.ErrRule)
	}
}

// TestP1804First: of several that are broken the first by its node's id, whatever kinds they are and whatever breaks them.
func TestP1804First(t *testing.T) {
	all, breaches := sixRules()
	for first := range all {
		for second := range all {
			g := brokenGraph()
			g.Nodes = append(g.Nodes, says(11, "kind", "needs", "of", "park", "key", "k"), says(12, all[first]...), says(13, all[second]...))
			by := breaches[first]
			by.Rule = 12
			checks(t, "two that are broken", g, by, api.ErrRule)
		}
	}
}

// TestP1804Last: one that is broken behind many that are kept.
func TestP1804Last(t *testing.T) {
	g := brokenGraph()
	for i := range 300 {
		g.Nodes = append(g.Nodes, says(int64(11+i), "kind", "only", "of", "city", "key", "name", "type", "string"))
	}
	checks(t, "all are kept", g, api.Breach{}, api.OK)
	g.Nodes = append(g.Nodes, says(900, "kind", "needs", "of", "town", "key", "name"))
	checks(t, "the last is broken", g, api.Breach{Rule: 900, Node: 3}, api.ErrRule)
}

// TestP1804NoRule: a node that says no rule is told ahead of rules that are broken, also of lesser ids.
func TestP1804NoRule(t *testing.T) {
	all, _ := sixRules()
	g := brokenGraph()
	g.Nodes = append(g.Nodes, says(11, all[0]...), says(99))
	checks(t, "both", g, api.Breach{Node: 99}, api.ErrNoRule)
}

// TestP1804OfRules: a rule may be about the nodes that say rules.
func TestP1804OfRules(t *testing.T) {
	checks(t, "by its own node", api.Graph{Nodes: []api.Node{says(4, "kind", "needs", "of", "rule", "key", "name")}}, api.Breach{Rule: 4, Node: 4}, api.ErrRule)
	checks(t, "which it keeps", api.Graph{Nodes: []api.Node{says(4, "kind", "needs", "of", "rule", "key", "kind")}}, api.Breach{}, api.OK)
	twice := api.Graph{Nodes: []api.Node{says(4, "kind", "unique", "of", "rule", "key", "kind"), says(5, right[5]...), says(8, right[0]...), says(9, right[5]...)}}
	checks(t, "each kind once", twice, api.Breach{Rule: 4, Node: 8}, api.ErrRule)
	ring := api.Graph{Nodes: []api.Node{says(4, "kind", "order", "of", "above"), nd(5, "a")}, Edges: above(4, 5, 5, 4)}
	checks(t, "a ring through its own node", ring, api.Breach{Rule: 4, Node: 4}, api.ErrRule)
}
