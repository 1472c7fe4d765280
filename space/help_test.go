package space_test

import (
	"cmp"
	"fmt"
	"math"
	"slices"
	"testing"

	"trellis/api"
	"trellis/space"
)

// Values, and what is none; names that are none; ids that no graph here has.
var (
	null    = api.Val{}
	yes     = api.Val{Kind: api.KBool, A: 1}
	no      = api.Val{Kind: api.KBool}
	noVals  = []api.Val{{Kind: 9}, {Kind: -1}, {Kind: api.KNull, A: 1}, {Kind: api.KNull, B: 1}, {Kind: api.KNull, S: "a"}, {Kind: api.KBool, A: 2}, {Kind: api.KInt, B: 1}, {Kind: api.KInt, S: "x"}, {Kind: api.KCpx, A: 1<<25 + 1}, {Kind: api.KStr, S: "\xff"}, {Kind: api.KStr, S: "123456789012345678901234567890123"}, {Kind: api.KNode}, {Kind: api.KEdge, A: 1, B: 1}}
	links   = []api.Val{{Kind: api.KNode, A: 1}, {Kind: api.KNode, A: -1}, {Kind: api.KEdge, A: 4}}
	noNames = []string{"", "A", "City", "1a", "a_b", "ninechars", "a b", "é", "a\x00"}
	farIds  = []int64{0, 3, 9, -7, 1 << 32, 1<<32 + 1, math.MaxInt64, math.MinInt64, math.MinInt64 + 1}
)

func num(n int64) api.Val    { return api.Val{Kind: api.KInt, A: n} }
func cpx(a, b int64) api.Val { return api.Val{Kind: api.KCpx, A: a, B: b} }
func str(s string) api.Val   { return api.Val{Kind: api.KStr, S: s} }

func pr(key string, v api.Val) api.Prop { return api.Prop{Key: key, Val: v} }

// numbered: n properties with keys that rise: a, b, ..
func numbered(n int) (out []api.Prop) {
	for i := range n {
		out = append(out, pr(string(rune('a'+i)), num(int64(i))))
	}
	return out
}

func nd(id int64, label string, props ...api.Prop) api.Node {
	return api.Node{Id: id, Label: label, Props: props}
}

func ed(id int64, kind string, from, to int64, props ...api.Prop) api.Edge {
	return api.Edge{Id: id, Type: kind, From: from, To: to, Props: props}
}

func to(id int64, key string, v api.Val) api.PropSet { return api.PropSet{Id: id, Key: key, Val: v} }

func list[T any](of ...T) []T { return of }

func ids(of ...int64) []int64 { return of }

// What a view is asked.

func qNodes(label string) api.Asked { return api.Asked{What: 1, Label: label} }
func qNode(id int64) api.Asked      { return api.Asked{What: 3, Id: id} }
func qEdge(id int64) api.Asked      { return api.Asked{What: 4, Id: id} }
func qOut(id int64) api.Asked       { return api.Asked{What: 5, Id: id} }
func qIn(id int64) api.Asked        { return api.Asked{What: 6, Id: id} }

func qFind(label, key string, v api.Val) api.Asked {
	return api.Asked{What: 2, Label: label, Key: key, Val: v}
}

func qHold(r api.Res, mode int) api.Asked { return api.Asked{What: 7, Res: r, Mode: mode} }

// qX, qMix: the locks that a space asks for: on a node, on a label.
func qX(id int64) api.Asked       { return qHold(api.Res{Level: 3, Id: id}, 5) }
func qMix(label string) api.Asked { return qHold(api.Res{Level: 2, Label: label}, 2) }

// chapter: the graph of the chapter's examples.
func chapter() api.Graph {
	return api.Graph{Nodes: list(nd(1, "city", pr("pop", num(5))), nd(2, "city")), Edges: list(ed(4, "road", 1, 2))}
}

// rich: a graph with gaps in its ids, rings, edges side by side, and nodes and edges that have all properties that they may have.
func rich() api.Graph {
	return api.Graph{
		Nodes: list(nd(1, "city", pr("name", str("ulm")), pr("pop", num(5))), nd(2, "city", pr("pop", num(5))), nd(4, "town", pr("pop", num(5))), nd(6, "city", numbered(8)...), nd(7, "lone")),
		Edges: list(ed(1, "road", 1, 2, pr("len", num(3))), ed(2, "road", 1, 2), ed(5, "road", 2, 1, numbered(8)...), ed(6, "ring", 1, 1), ed(8, "rail", 4, 1), ed(9, "ring", 6, 6, pr("k", yes))),
	}
}

// wants: is the answer of a call the one that is wanted?
func wants(t *testing.T, what string, got, want api.Errno) {
	t.Helper()
	if got != want {
		t.Errorf("%s = %d, want %d", what, got, want)
	}
}

// same: do the two tell the same? (A list that is nil tells the same as one without elements.)
func same(t *testing.T, what string, got, want any) {
	t.Helper()
	if g, w := fmt.Sprintf("%+v", got), fmt.Sprintf("%+v", want); g != w {
		t.Errorf("%s = %s, want %s", what, g, w)
	}
}

// must: the result of a call that has no error.
func must[T any](out T, code api.Errno) T {
	if code != api.OK {
		panic(code)
	}
	return out
}

// refused: the call answered that error, and a zero result.
func refused[T any](t *testing.T, what string, want api.Errno) func(T, api.Errno) {
	t.Helper()
	return func(got T, code api.Errno) {
		t.Helper()
		var zero T
		wants(t, what, code, want)
		same(t, what, got, zero)
	}
}

// lists: the call answered these ids.
func lists(t *testing.T, what string, want ...int64) func([]int64, api.Errno) {
	t.Helper()
	return func(got []int64, code api.Errno) {
		t.Helper()
		wants(t, what, code, api.OK)
		same(t, what, got, want)
	}
}

func loaded(t *testing.T, g api.Graph) *space.Mem {
	t.Helper()
	m, code := space.Load(g)
	if m == nil || code != api.OK {
		t.Fatalf("Load(%+v) = %v, %d, want a graph", g, m, code)
	}
	return m
}

// over: a space over a graph that is loaded.
func over(t *testing.T, g api.Graph) (*space.Mem, *space.Space) {
	t.Helper()
	m := loaded(t, g)
	s := space.New(m)
	if s == nil {
		t.Fatal("New = nil")
	}
	return m, s
}

// asks: just these were asked of the graph since the last time.
func asks(t *testing.T, m *space.Mem, want ...api.Asked) {
	t.Helper()
	same(t, "what was asked", m.Asked(), want)
}

// added, linked: one more node, one more edge, under that id.
func added(t *testing.T, s *space.Space, want int64, label string, props ...api.Prop) {
	t.Helper()
	got, code := s.AddNode(label, props)
	wants(t, "AddNode", code, api.OK)
	same(t, "AddNode", got, want)
}

func linked(t *testing.T, s *space.Space, want int64, kind string, from, to int64, props ...api.Prop) {
	t.Helper()
	got, code := s.AddEdge(kind, from, to, props)
	wants(t, "AddEdge", code, api.OK)
	same(t, "AddEdge", got, want)
}

// took: the node is deleted with its edges; that many.
func took(t *testing.T, s *space.Space, id int64, want int) {
	t.Helper()
	got, code := s.DelNode(id, true)
	wants(t, "DelNode", code, api.OK)
	same(t, fmt.Sprint("DelNode ", id), got, want)
}

// shown: the graph that a view shows, node by node and edge by edge.
func shown(v api.View) (g api.Graph) {
	var edges []int64
	for _, id := range must(v.Nodes("")) {
		g.Nodes = append(g.Nodes, must(v.Node(id)))
		edges = append(edges, must(v.Out(id))...)
	}
	slices.SortFunc(edges, ownLast)
	for _, id := range edges {
		g.Edges = append(g.Edges, must(v.Edge(id)))
	}
	return g
}

// ownLast: the order of ids: those of the base rising, then the space's own as they were made.
func ownLast(a, b int64) int {
	if a > 0 && b > 0 {
		return cmp.Compare(a, b)
	}
	return cmp.Compare(b, a)
}

// told: all that a space tells of itself: what it shows, by every call, its write set, its mark.
func told(s *space.Space) string {
	g := shown(s)
	out := fmt.Sprintf("%+v\n%+v %d\n", g, s.Delta(), s.Mark())
	for _, n := range g.Nodes {
		out += fmt.Sprintln(n.Id, must(s.Out(n.Id)), must(s.In(n.Id)), must(s.Nodes(n.Label)))
		for _, p := range n.Props {
			out += fmt.Sprintln(p, must(s.Find(n.Label, p.Key, p.Val)))
		}
	}
	return out
}

// still: a function that says whether the space is as it was when still was called.
func still(t *testing.T, s *space.Space) func() {
	t.Helper()
	was := told(s)
	return func() {
		t.Helper()
		if now := told(s); now != was {
			t.Errorf("the space is\n%s\nwas\n%s", now, was)
		}
	}
}
