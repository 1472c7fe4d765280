package records_test

import (
	"testing"

	"trellis/api"
	"trellis/records"
)

// dirtied: how many dirty pages the write set leaves where all pages were at home.
func dirtied(t *testing.T, s *records.Store, x api.Delta) int {
	t.Helper()
	_, code := s.Checkpoint(1000)
	wants(t, "Checkpoint", code, api.OK)
	_, code = s.Apply(x, false, true)
	wants(t, "Apply", code, api.OK)
	return s.Stat().Dirty
}

// TestP716Edges: an edge comes, or goes, with six pages at most, however many there are.
func TestP716Edges(t *testing.T) {
	_, s := grown(t, 200, api.Sizes{Node: 6, Edge: 20, Prop: 1, Tree: 1}, nodesOf(30))
	most := 0
	check := func(what string, n int) {
		t.Helper()
		if most = max(most, n); n < 2 || n > 6 {
			t.Errorf("%s leaves %d dirty pages", what, n)
		}
	}
	for i := range int64(60) {
		from, to := 1+i*i%3*9, 1+i%7*4
		check("an edge more", dirtied(t, s, api.Delta{NewEdges: list(ed(-1, "t", from, to))}))
	}
	if most != 6 {
		t.Errorf("an edge more never leaves 6 dirty pages: the test is too small")
	}
	most = 0
	for i := range int64(60) {
		check("an edge less", dirtied(t, s, api.Delta{DelEdges: list(1 + i*37%60)}))
	}
	if most != 6 {
		t.Errorf("an edge less never leaves 6 dirty pages: the test is too small")
	}
	tells(t, s, api.Graph{Nodes: must(s.Graph()).Nodes})
}

// TestP716Props: another value of an edge's property takes two pages.
func TestP716Props(t *testing.T) {
	_, s := grown(t, 200, wide, api.Delta{NewNodes: list(nd(-1, "a")), NewEdges: list(ed(-1, "t", -1, -1, numbered(8)...))})
	for i, p := range numbered(8) {
		if n := dirtied(t, s, api.Delta{SetEdges: list(to(1, p.Key, num(int64(i+100))))}); n != 2 {
			t.Errorf("another value leaves %d dirty pages", n)
		}
	}
}
