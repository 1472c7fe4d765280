package txn_test

import (
	"fmt"
	"reflect"
	"strings"
	"testing"

	"trellis/api"
	"trellis/locks"
	"trellis/txn"
)

// claim: a mode on a resource.
type claim struct {
	at   api.Res
	mode int
}

func (c claim) String() string { return resName(c.at) + " " + modeNames[c.mode] }

var graph = api.Res{Level: api.RGraph}

func label(name string) api.Res { return api.Res{Level: api.RLabel, Label: name} }
func node(id int64) api.Res     { return api.Res{Level: api.RNode, Id: id} }

// claims: resources and modes in turn.
func claims(of ...any) (out []claim) {
	for i := 0; i < len(of); i += 2 {
		out = append(out, claim{of[i].(api.Res), of[i+1].(int)})
	}
	return out
}

// sight: a view of the transaction 5 over the store, which holds some locks already.
type sight struct {
	api.View
	table *locks.Table
}

func see(w *world, has []claim) sight {
	table := locks.New()
	table.Begin(5, 50)
	table.Begin(4, 40)
	for _, c := range has {
		table.Ask(5, c.at, c.mode)
	}
	return sight{txn.ViewOf(w.s, table, 5), table}
}

func (s sight) held() string {
	var out []string
	for _, r := range resources() {
		if mode, _ := s.table.Mode(5, r); mode != 0 {
			out = append(out, claim{r, mode}.String())
		}
	}
	return strings.Join(out, ", ")
}

// call: a call of a view, and all that it answers.
type call struct {
	name string
	do   func(api.View) (any, api.Errno)
}

func nodesCall(name string) call {
	return call{"Nodes " + name, func(v api.View) (any, api.Errno) { list, code := v.Nodes(name); return list, code }}
}

func findCall(name, key string, of api.Val) call {
	return call{"Find " + name, func(v api.View) (any, api.Errno) { list, code := v.Find(name, key, of); return list, code }}
}

// ofNode: Node, Out and In of an id.
func ofNode(id int64) []call {
	return []call{
		{fmt.Sprint("Node ", id), func(v api.View) (any, api.Errno) { n, code := v.Node(id); return n, code }},
		{fmt.Sprint("Out ", id), func(v api.View) (any, api.Errno) { list, code := v.Out(id); return list, code }},
		{fmt.Sprint("In ", id), func(v api.View) (any, api.Errno) { list, code := v.In(id); return list, code }},
	}
}

func edgeCall(id int64) call {
	return call{fmt.Sprint("Edge ", id), func(v api.View) (any, api.Errno) { e, code := v.Edge(id); return e, code }}
}

func holdCall(r api.Res, mode int) call {
	return call{fmt.Sprint("Hold ", r, mode), func(v api.View) (any, api.Errno) { return nil, v.Hold(r, mode) }}
}

func isZero(of any) bool {
	return of == nil || reflect.ValueOf(of).IsZero() || reflect.ValueOf(of).Kind() == reflect.Slice && reflect.ValueOf(of).Len() == 0
}

// asks: where the locks has are held, the call must ask for these, in this order, and then answer as the store does. Each of them is taken by another one in turn: the call must wait there, and answer ErrBlocked.
func asks(t *testing.T, w *world, has []claim, c call, want ...any) {
	t.Helper()
	list := claims(want...)
	v := see(w, has)
	all := see(w, has)
	for _, x := range list {
		all.table.Ask(5, x.at, x.mode)
	}
	what := fmt.Sprintf("%s, holding %v", c.name, has)
	got, code := c.do(v)
	there, fault := c.do(w.s)
	same(t, what, []any{got, code}, []any{there, fault})
	same(t, what+": held behind it", v.held(), all.held())
	for i, x := range list {
		v := see(w, has)
		if mode, _ := v.table.Mode(5, x.at); mode != 0 {
			continue // the other one cannot take it
		}
		v.table.Ask(4, x.at, api.MX)
		ahead := see(w, has)
		for _, y := range list[:i] {
			ahead.table.Ask(5, y.at, y.mode)
		}
		got, code := c.do(v)
		if code != api.ErrBlocked || !isZero(got) {
			t.Errorf("%s: %v, %d, where %v is taken", what, got, code, x)
		}
		at, goal, _ := v.table.Waiting(5)
		same(t, what+": it waits for", claim{at, goal}, x)
		same(t, what+": held till then", v.held(), ahead.held())
		got, code = c.do(v)
		if code != api.ErrQueued || !isZero(got) {
			t.Errorf("%s: %v, %d, where it waits already", what, got, code)
		}
	}
}

// places: a store with nodes 1 (n, k 1), 2 (n, k 2), 3 (m), edges 1 from 1 to 2, 2 from 3 to 1.
func places(t *testing.T) *world {
	return filled(t, "create (a:n {k: 1})-[:r]->(:n {k: 2}) create (:m)-[:s]->(a)")
}

// TestP1406ReadNode: Node, Out, In.
func TestP1406ReadNode(t *testing.T) {
	w := places(t)
	for _, c := range ofNode(1) {
		asks(t, w, nil, c, graph, api.MIS, label("n"), api.MIS, node(1), api.MS)
		for _, mode := range []int{api.MS, api.MSIX, api.MX} {
			asks(t, w, claims(graph, mode), c)
			asks(t, w, claims(graph, api.MIX, label("n"), mode), c)
			asks(t, w, claims(graph, api.MIS, label("n"), mode), c)
			asks(t, w, claims(label("n"), mode), c, graph, api.MIS) // the graph is asked for ahead of the label
			asks(t, w, claims(label("m"), mode), c, graph, api.MIS, label("n"), api.MIS, node(1), api.MS)
		}
		for _, mode := range []int{api.MIS, api.MIX} {
			asks(t, w, claims(graph, mode), c, graph, api.MIS, label("n"), api.MIS, node(1), api.MS)
			asks(t, w, claims(graph, mode, label("n"), mode), c, graph, api.MIS, label("n"), api.MIS, node(1), api.MS)
		}
		asks(t, w, claims(graph, api.MIX, label("n"), api.MIX, node(1), api.MX), c)
		asks(t, w, claims(graph, api.MIS, label("n"), api.MIS, node(2), api.MS), c, node(1), api.MS)
	}
	for _, c := range ofNode(3) {
		asks(t, w, claims(graph, api.MIS, label("n"), api.MS), c, label("m"), api.MIS, node(3), api.MS)
	}
}

// TestP1406NoNode: what the store does not have is not locked.
func TestP1406NoNode(t *testing.T) {
	w := places(t)
	for _, id := range []int64{4, 0, -1, 99, 1 << 40} {
		for _, c := range append(ofNode(id), edgeCall(id), edgeCall(id+2)) {
			if c.name != "Edge 1" && c.name != "Edge 2" {
				asks(t, w, nil, c)
			}
		}
	}
}

// TestP1406Edge: the node that it leaves is read.
func TestP1406Edge(t *testing.T) {
	w := places(t)
	asks(t, w, nil, edgeCall(1), graph, api.MIS, label("n"), api.MIS, node(1), api.MS)
	asks(t, w, nil, edgeCall(2), graph, api.MIS, label("m"), api.MIS, node(3), api.MS)
	asks(t, w, claims(graph, api.MS), edgeCall(2))
	asks(t, w, claims(graph, api.MIS, label("m"), api.MS), edgeCall(2))
	asks(t, w, claims(graph, api.MIS, label("n"), api.MS), edgeCall(2), label("m"), api.MIS, node(3), api.MS)
}

// TestP1406Scan: Nodes, Find.
func TestP1406Scan(t *testing.T) {
	w := places(t)
	one := api.Val{Kind: api.KInt, A: 1}
	for _, c := range []call{nodesCall("n"), findCall("n", "k", one), findCall("n", "K", one), findCall("n", "k", api.Val{Kind: 99}), findCall("n", "nix", one)} {
		asks(t, w, nil, c, graph, api.MIS, label("n"), api.MS)
		for _, mode := range []int{api.MS, api.MSIX, api.MX} {
			asks(t, w, claims(graph, mode), c)
			asks(t, w, claims(graph, api.MIS, label("n"), mode), c)
		}
		for _, mode := range []int{api.MIS, api.MIX} {
			asks(t, w, claims(graph, mode), c, graph, api.MIS, label("n"), api.MS)
			asks(t, w, claims(graph, mode, label("n"), mode), c, graph, api.MIS, label("n"), api.MS)
		}
	}
	asks(t, w, nil, nodesCall("none"), graph, api.MIS, label("none"), api.MS)
	for _, c := range []call{nodesCall(""), findCall("", "k", one)} {
		asks(t, w, nil, c, graph, api.MS)
		asks(t, w, claims(graph, api.MIX), c, graph, api.MS)
		asks(t, w, claims(graph, api.MSIX), c, graph, api.MS)
		asks(t, w, claims(graph, api.MIS, label("n"), api.MX), c, graph, api.MS)
	}
}

// TestP1406NoLabel: a label that is none.
func TestP1406NoLabel(t *testing.T) {
	w := places(t)
	for _, c := range []call{nodesCall("N"), findCall("N", "k", api.Val{})} {
		v := see(w, nil)
		got, code := c.do(v)
		same(t, c.name, []any{isZero(got), code, v.held()}, []any{true, api.ErrRes, "graph MIS"})
	}
}

// TestP1406Hold: what a mode on a resource means for those above it.
func TestP1406Hold(t *testing.T) {
	w := places(t)
	for mode := api.MIS; mode <= api.MX; mode++ {
		above := api.MIS
		if mode == api.MIX || mode == api.MSIX || mode == api.MX {
			above = api.MIX
		}
		asks(t, w, nil, holdCall(graph, mode), graph, mode)
		asks(t, w, claims(graph, api.MIX), holdCall(graph, mode), graph, mode)
		for _, has := range [][]claim{nil, claims(graph, api.MIS), claims(graph, api.MIX), claims(graph, api.MS)} {
			asks(t, w, has, holdCall(label("n"), mode), graph, above, label("n"), mode)
			asks(t, w, has, holdCall(label("new"), mode), graph, above, label("new"), mode)
			asks(t, w, has, holdCall(node(1), mode), graph, above, label("n"), above, node(1), mode)
			asks(t, w, has, holdCall(node(3), mode), graph, above, label("m"), above, node(3), mode)
		}
		asks(t, w, claims(graph, api.MIS, label("n"), api.MS), holdCall(node(2), mode), graph, above, label("n"), above, node(2), mode)
	}
}

// TestP1406HoldWrong: a node that is not there; a mode or a resource that is none.
func TestP1406HoldWrong(t *testing.T) {
	w := places(t)
	modes := []int{0, -1, 6, 1 << 40, -1 << 63}
	for mode := api.MIS; mode <= api.MX; mode++ {
		modes = append(modes, mode)
	}
	for i, mode := range modes {
		bad := i < 5
		fails := func(r api.Res, want api.Errno, held string) {
			t.Helper()
			v := see(w, nil)
			same(t, fmt.Sprintf("Hold(%+v, %d)", r, mode), []any{v.Hold(r, mode), v.held()}, []any{want, held})
		}
		for _, id := range []int64{0, -1, 4, 99} {
			fails(node(id), api.ErrNoNode, "")
			fails(api.Res{Level: api.RNode, Label: "n", Id: id}, api.ErrNoNode, "")
		}
		fails(api.Res{Level: api.RNode, Label: "n", Id: 1}, api.ErrRes, "graph MIS, n MIS")
		fails(api.Res{Level: api.RNode, Label: "m", Id: 1}, api.ErrRes, "graph MIS, n MIS")
		fails(label("N"), api.ErrRes, "graph MIS")
		fails(label(""), api.ErrRes, "graph MIS")
		fails(api.Res{Level: api.RLabel, Label: "n", Id: 1}, api.ErrRes, "graph MIS")
		for _, r := range []api.Res{{}, {Level: 4}, {Level: -1}, {Level: api.RGraph, Id: 1}, {Level: api.RGraph, Label: "n"}, {Level: 9, Label: "n", Id: 1}} {
			fails(r, api.ErrRes, "")
		}
		if bad {
			fails(graph, api.ErrMode, "")
			fails(label("n"), api.ErrMode, "graph MIS")
			fails(node(1), api.ErrMode, "graph MIS, n MIS")
		}
	}
}

// TestP1406Queries: what the queries of a transaction hold behind them.
func TestP1406Queries(t *testing.T) {
	for _, x := range []struct{ text, want string }{
		{"return 1", ""},
		{"match (a:n) return a.k", "graph MIS, n MS"},
		{"match (a:c) return a.k", "graph MIS, c MS"},
		{"match (a) return a.k", "graph MS"},
		{"match (a:n {k: 1}) return a", "graph MIS, n MS"},
		{"match (a:n {k: 1})-[e]->(b) return b.k", "graph MIS, n MS"},
		{"match (a:n {k: 1})<-[e]-(b) return b.k", "graph MIS, m MIS, n MS, 3 MS"},
		{"match (a:m)-[e]->(b) return e", "graph MIS, m MS, n MIS, 1 MS"},
		{"create (:o)", "graph MIX, o MIX"},
		{"create (:o)-[:r]->(:c)", "graph MIX, c MIX, o MIX"},
		{"match (a:m) create (a)-[:r]->(:o)", "graph MIX, m MSIX, o MIX, 3 MX"},
		{"match (a:m) set a.k = 1", "graph MIX, m MSIX, 3 MX"},
		{"match (a:m)-[e]->() set e.k = 1", "graph MIX, m MSIX, n MIS, 1 MS, 3 MX"},
		{"match (a:m)-[e]->() delete e", "graph MIX, m MSIX, n MIX, 1 MX, 3 MX"},
		{"match (a:m) detach delete a", "graph MIX, m MSIX, n MIX, 1 MX, 3 MX"},
		{"match (a:m) create (b:o) set b.k = 1 delete b", "graph MIX, m MS, o MIX"},
		{"merge (a:n {k: 1}) return a", "graph MIS, n MS"},
		{"merge (a:n {k: 9}) return a", "graph MIX, n MSIX"},
		{"match (a) set a.k = 1", "graph MSIX, m MIX, n MIX, 1 MX, 2 MX, 3 MX"},
		{"match (a:m) return hops(a, a)", "graph MIS, m MS"},
		{"match (a:m) return deg(a), deg(a, s)", "graph MIS, m MS"},
	} {
		w := places(t)
		w.begin(1, x.text)
		w.step(1, "ran")
		w.holds(1, x.want)
		s, _ := w.m.Step(1)
		same(t, x.text, s.What, api.TCommitted)
		w.holds(1, "")
	}
}
