package machine_test

import (
	"fmt"
	"reflect"
	"slices"
	"strings"
	"testing"

	"trellis/api"
	"trellis/machine"
	"trellis/space"
	"trellis/syntax"
	"trellis/value"
)

var null = api.Val{}

func num(n int64) api.Val    { return api.Val{Kind: api.KInt, A: n} }
func cpx(a, b int64) api.Val { return api.Val{Kind: api.KCpx, A: a, B: b} }
func str(s string) api.Val   { return api.Val{Kind: api.KStr, S: s} }
func yes() api.Val           { return api.Val{Kind: api.KBool, A: 1} }
func no() api.Val            { return api.Val{Kind: api.KBool} }
func nodeAt(id int64) api.Val {
	return api.Val{Kind: api.KNode, A: id}
}
func edgeAt(id int64) api.Val {
	return api.Val{Kind: api.KEdge, A: id}
}

// props: keys and values in turn.
func props(of ...any) (out []api.Prop) {
	for i := 0; i < len(of); i += 2 {
		out = append(out, api.Prop{Key: of[i].(string), Val: of[i+1].(api.Val)})
	}
	return out
}

func nd(id int64, label string, of ...any) api.Node {
	return api.Node{Id: id, Label: label, Props: props(of...)}
}

func ed(id int64, kind string, from, to int64, of ...any) api.Edge {
	return api.Edge{Id: id, Type: kind, From: from, To: to, Props: props(of...)}
}

// chapter: the graph of the chapter's examples.
func chapter() api.Graph {
	return api.Graph{
		Nodes: []api.Node{nd(1, "city", "name", str("ulm"), "pop", num(5)), nd(2, "city", "name", str("bern")), nd(3, "town")},
		Edges: []api.Edge{ed(1, "road", 1, 2, "len", num(4)), ed(2, "road", 2, 3, "len", num(1)), ed(3, "rail", 1, 3)},
	}
}

// bush: rings, edges side by side, edges both ways, a node that nothing joins, values of all kinds.
func bush() api.Graph {
	return api.Graph{
		Nodes: []api.Node{nd(1, "x", "b", yes(), "k", num(1)), nd(2, "x", "k", num(2), "s", str("one")), nd(4, "y", "k", cpx(1, 0)), nd(5, "y", "k", num(1)), nd(9, "z", "k", str("a"), "z", no())},
		Edges: []api.Edge{ed(1, "t", 1, 2, "w", num(3)), ed(2, "t", 1, 2, "w", num(1)), ed(3, "u", 2, 1), ed(4, "u", 2, 2, "w", num(7)), ed(6, "t", 2, 4, "w", num(2)), ed(7, "t", 4, 5, "w", num(0)), ed(8, "u", 5, 1, "w", str("far"))},
	}
}

// crowd: so many nodes of one label, without anything else.
func crowd(n int) (g api.Graph) {
	for i := range n {
		g.Nodes = append(g.Nodes, nd(int64(i+1), "n"))
	}
	return g
}

// spy: a view that notes what it is asked, and answers the asking number failAt (from 0 on; below 0: none) with an error.
type spy struct {
	view   api.View
	log    []string
	failAt int
	code   api.Errno
}

func spied[T any](v *spy, call func() (T, api.Errno), what ...any) (T, api.Errno) {
	v.log = append(v.log, strings.TrimSpace(fmt.Sprintln(what...)))
	if len(v.log)-1 == v.failAt {
		var none T
		return none, v.code
	}
	return call()
}

func (v *spy) Nodes(label string) ([]int64, api.Errno) {
	return spied(v, func() ([]int64, api.Errno) { return v.view.Nodes(label) }, "Nodes", label)
}

func (v *spy) Find(label, key string, of api.Val) ([]int64, api.Errno) {
	return spied(v, func() ([]int64, api.Errno) { return v.view.Find(label, key, of) }, "Find", label, key, value.Print(of))
}

func (v *spy) Node(id int64) (api.Node, api.Errno) {
	return spied(v, func() (api.Node, api.Errno) { return v.view.Node(id) }, "Node", id)
}

func (v *spy) Edge(id int64) (api.Edge, api.Errno) {
	return spied(v, func() (api.Edge, api.Errno) { return v.view.Edge(id) }, "Edge", id)
}

func (v *spy) Out(id int64) ([]int64, api.Errno) {
	return spied(v, func() ([]int64, api.Errno) { return v.view.Out(id) }, "Out", id)
}

func (v *spy) In(id int64) ([]int64, api.Errno) {
	return spied(v, func() ([]int64, api.Errno) { return v.view.In(id) }, "In", id)
}

func (v *spy) Hold(r api.Res, mode int) api.Errno {
	_, code := spied(v, func() (int, api.Errno) { return 0, v.view.Hold(r, mode) }, "Hold", r.Level, r.Label, r.Id, mode)
	return code
}

// asked: what was asked since the last time.
func (v *spy) asked() string {
	out := strings.Join(v.log, "; ")
	v.log = nil
	return out
}

// over: a space over the graph, and who notes what it asks.
func over(t *testing.T, g api.Graph) (*spy, *space.Space) {
	t.Helper()
	m, code := space.Load(g)
	if code != api.OK {
		t.Fatalf("Load(%+v) = %d", g, code)
	}
	v := &spy{view: m, failAt: -1}
	return v, space.New(v)
}

func parsed(t *testing.T, text string) api.Query {
	t.Helper()
	q, code, at := syntax.Parse(text)
	if code != api.OK {
		t.Fatalf("Parse(%q): %d at %d", text, code, at)
	}
	return q
}

func parsedExpr(t *testing.T, text string) api.Expr {
	t.Helper()
	e, code, at := syntax.ParseExpr(text)
	if code != api.OK {
		t.Fatalf("ParseExpr(%q): %d at %d", text, code, at)
	}
	return e
}

func compiled(t *testing.T, text string) *machine.Code {
	t.Helper()
	c, code := machine.Compile(parsed(t, text))
	if c == nil || code != api.OK {
		t.Fatalf("Compile(%q) = %v, %d", text, c, code)
	}
	return c
}

// shown: rows as text: values with blanks between, rows with "; " between.
func shown(rows [][]api.Val) string {
	var out []string
	for _, r := range rows {
		var vals []string
		for _, v := range r {
			vals = append(vals, value.Print(v))
		}
		out = append(out, strings.Join(vals, " "))
	}
	return strings.Join(out, "; ")
}

// told: all that a run answers, but for its columns' names.
func told(of api.Table, code api.Errno) string {
	if code != api.OK {
		return fmt.Sprintf("error %d", code)
	}
	out := shown(of.Rows)
	for _, n := range []struct {
		word string
		many int
	}{{"made", of.Made}, {"gone", of.Gone}, {"set", of.Set}} {
		if n.many != 0 {
			out += fmt.Sprintf(" | %s %d", n.word, n.many)
		}
	}
	return out
}

// gives: the query, run over the graph with all fuel that may be, must answer that.
func gives(t *testing.T, g api.Graph, text, want string) {
	t.Helper()
	_, s := over(t, g)
	runs(t, s, text, want)
}

// runs: the same, over a space that is there already.
func runs(t *testing.T, s *space.Space, text, want string) {
	t.Helper()
	got, code := compiled(t, text).Run(s, api.MaxFuel)
	same(t, text, told(got, code), want)
}

// asks: the query must answer that, and ask the graph for that.
func asks(t *testing.T, g api.Graph, text, want, asked string) {
	t.Helper()
	v, s := over(t, g)
	runs(t, s, text, want)
	same(t, text+": asked", v.asked(), asked)
}

// fails: each query must answer that error, a zero table, and leave the space as it was.
func fails(t *testing.T, g api.Graph, want api.Errno, texts ...string) {
	t.Helper()
	for _, text := range texts {
		_, s := over(t, g)
		s.AddNode("old", props("k", num(1)))
		unmoved := still(t, s)
		got, code := compiled(t, text).Run(s, api.MaxFuel)
		same(t, text, code, want)
		if !reflect.DeepEqual(got, api.Table{}) {
			t.Errorf("%s: an error, and the table %+v", text, got)
		}
		unmoved()
	}
}

// still: a function that says whether the space's write set is as it was when still was called.
func still(t *testing.T, s *space.Space) func() {
	t.Helper()
	delta, mark := s.Delta(), s.Mark()
	return func() {
		t.Helper()
		same(t, "the write set", s.Delta(), delta)
		same(t, "the mark", s.Mark(), mark)
	}
}

// same: do the two tell the same? (A list that is nil tells the same as one without elements.)
func same(t *testing.T, what string, got, want any) {
	t.Helper()
	if g, w := fmt.Sprintf("%+v", got), fmt.Sprintf("%+v", want); g != w {
		t.Errorf("%s: %s, want %s", what, g, w)
	}
}

// eval: the expression in a row, with all variables of any kind, must be worth that.
func eval(t *testing.T, g api.Graph, text string, row map[string]api.Val, want string) {
	t.Helper()
	_, s := over(t, g)
	same(t, text, evaluated(t, s, text, row), want)
}

// evaluated: what Eval answers, as text.
func evaluated(t *testing.T, s *space.Space, text string, row map[string]api.Val) string {
	t.Helper()
	var vars []api.Bound
	var vals []api.Val
	for _, name := range sortedNames(row) {
		vars, vals = append(vars, api.Bound{Name: name}), append(vals, row[name])
	}
	v, code := machine.Eval(parsedExpr(t, text), vars, vals, s)
	if code != api.OK {
		if v != null {
			t.Errorf("%s: %v beside the error %d", text, v, code)
		}
		return fmt.Sprintf("error %d", code)
	}
	return value.Print(v)
}

func sortedNames(row map[string]api.Val) (out []string) {
	for name := range row {
		out = append(out, name)
	}
	slices.Sort(out)
	return out
}
