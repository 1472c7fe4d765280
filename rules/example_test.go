package rules_test

import (
	"testing"

	"trellis/api"
)

// The chapter's examples, by their numbers.

func TestP1802Example1(t *testing.T) {
	list := []api.Rule{{Id: 1, Kind: api.RuUnique, Of: "city", Key: "name"}, {Id: 4, Kind: api.RuOrder, Of: "above"}}
	reads(t, "the graph", chapter(nil), list, api.Breach{}, api.OK)
	checks(t, "the graph", chapter(nil), api.Breach{}, api.OK)
}

func TestP1804Example2(t *testing.T) {
	checks(t, "a second ulm", chapter([]api.Node{nd(5, "city", "name", "ulm")}), api.Breach{Rule: 1, Node: 5}, api.ErrRule)
	checks(t, "no name", chapter([]api.Node{nd(5, "city")}), api.Breach{}, api.OK)
}

func TestP1804Example3(t *testing.T) {
	checks(t, "a ring", chapter(nil, ed(2, "above", 3, 2)), api.Breach{Rule: 4, Node: 2}, api.ErrRule)
	checks(t, "a ring of one", chapter(nil, ed(2, "above", 3, 3)), api.Breach{Rule: 4, Node: 3}, api.ErrRule)
	checks(t, "another type", chapter(nil, ed(2, "below", 3, 2)), api.Breach{}, api.OK)
	checks(t, "ways into a ring", chapter([]api.Node{nd(5, "any")}, ed(2, "above", 5, 3), ed(3, "above", 3, 3)), api.Breach{Rule: 4, Node: 3}, api.ErrRule)
}

func TestP1804Example4(t *testing.T) {
	five := []api.Node{nd(5, "city", "name", "ulm")}
	checks(t, "both", chapter(five, ed(2, "above", 3, 2)), api.Breach{Rule: 1, Node: 5}, api.ErrRule)
}

func TestP1802Example5(t *testing.T) {
	for _, of := range [][]any{
		{"kind", "unique", "of", "city", "key", "name", "n", 1},
		{},
		{"kind", "most", "of", "road", "n", -1},
		{"kind", "most", "of", "Road", "n", 1},
		{"kind", "only", "of", "a", "key", "k", "type", "node"},
	} {
		g := chapter(nil)
		g.Nodes[0].Props = props(of...)
		reads(t, "node 1", g, nil, api.Breach{Node: 1}, api.ErrNoRule)
		checks(t, "node 1", g, api.Breach{Node: 1}, api.ErrNoRule)
	}
}

func TestP1803Example6(t *testing.T) {
	for _, x := range []struct {
		r  api.Rule
		by api.Breach
	}{
		{api.Rule{Id: 9, Kind: 2, Of: "city", Key: "pop"}, api.Breach{Rule: 9, Node: 2}},
		{api.Rule{Id: 9, Kind: 4, Of: "above", From: "city", To: "town"}, api.Breach{Rule: 9, Edge: 1}},
		{api.Rule{Id: 9, Kind: 5, Of: "above", N: 0}, api.Breach{Rule: 9, Node: 2}},
		{api.Rule{Id: 9, Kind: 5, Of: "above", N: 1}, api.Breach{}},
		{api.Rule{Id: 9, Kind: 3, Of: "city", Key: "name", Is: 4}, api.Breach{}},
		{api.Rule{Id: 9, Kind: 3, Of: "city", Key: "name", Is: 2}, api.Breach{Rule: 9, Node: 2}},
		{api.Rule{Id: 9, Kind: 2, Of: "city"}, api.Breach{}},
	} {
		breaks(t, "the graph", chapter(nil), x.r, x.by)
	}
}

func TestP1804Example7(t *testing.T) {
	checks(t, "3 and 3+0i", chapter([]api.Node{nd(5, "city", "name", 3), nd(6, "city", "name", cpx(3, 0))}), api.Breach{}, api.OK)
}
