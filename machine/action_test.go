package machine_test

import (
	"testing"

	"trellis/api"
)

// leaves: the query must answer that, and leave that write set.
func leaves(t *testing.T, g api.Graph, text, want string, left api.Delta) {
	t.Helper()
	_, s := over(t, g)
	runs(t, s, text, want)
	same(t, text+": the write set", s.Delta(), left)
}

// TestP1305Create: nodes and edges, from the left; nulls are left out, keys rise.
func TestP1305Create(t *testing.T) {
	leaves(t, chapter(), "create (a:new {z: 1, k: null, b: 1 + 1}) return a.b, a.z, a.k", "2 1 null | made 1", api.Delta{NewNodes: []api.Node{nd(-1, "new", "b", num(2), "z", num(1))}})
	leaves(t, chapter(), "match (a:city) create (:new {n: a.name})", " | made 2", api.Delta{NewNodes: []api.Node{nd(-1, "new", "n", str("ulm")), nd(-2, "new", "n", str("bern"))}})
	leaves(t, chapter(), "match (a:town) create (a)<-[r:inw {z: 1, b: null, a: true}]-(n:new)-[q:out]->(a) return r, n, q", "[-1] (-1) [-2] | made 3",
		api.Delta{NewNodes: []api.Node{nd(-1, "new")}, NewEdges: []api.Edge{ed(-1, "inw", -1, 3, "a", yes(), "z", num(1)), ed(-2, "out", -1, 3)}})
	leaves(t, chapter(), "create (a:x)-[e:t {w: b.k}]->(b:y {k: 3})<-[f:t {w: e.w + 1}]-(a) return e.w, f.w", "3 4 | made 4",
		api.Delta{NewNodes: []api.Node{nd(-1, "x"), nd(-2, "y", "k", num(3))}, NewEdges: []api.Edge{ed(-1, "t", -1, -2, "w", num(3)), ed(-2, "t", -1, -2, "w", num(4))}})
	leaves(t, chapter(), "match (a:town) create (a)-[:ring]->(a)", " | made 1", api.Delta{NewEdges: []api.Edge{ed(-1, "ring", 3, 3)}})
	leaves(t, chapter(), "match (a:town) create (a)", "", api.Delta{})
	leaves(t, chapter(), "match (a:nix) create (a)-[:t]->(:new)", "", api.Delta{})
	leaves(t, chapter(), "create (a:x {h: 8, g: 7, f: 6, e: 5, d: 4, c: 3, b: 2, a: 1})", " | made 1", api.Delta{NewNodes: []api.Node{nd(-1, "x", "a", num(1), "b", num(2), "c", num(3), "d", num(4), "e", num(5), "f", num(6), "g", num(7), "h", num(8))}})
}

// TestP1305CreateAsked: each action for all rows, ahead of the next one; a node behind a hop ahead of the hop's pairs.
func TestP1305CreateAsked(t *testing.T) {
	asks(t, chapter(), "match (a:city) create (b:x {n: a.name}) create (c:y {n: a.pop}) return b, c", "(-1) (-3); (-2) (-4) | made 4",
		"Nodes city; Node 1; Node 2; Node 1; Hold 2 x 0 2; Node 2; Hold 2 x 0 2; Node 1; Hold 2 y 0 2; Node 2; Hold 2 y 0 2")
	asks(t, chapter(), "match (a:town) create (b:x)-[:t {w: a.k}]->(c:y {w: a.k})<-[:t]-(a)", " | made 4",
		"Nodes town; Node 3; Hold 2 x 0 2; Node 3; Hold 2 y 0 2; Node 3; Hold 3  3 5; Node 3")
	asks(t, chapter(), "create (a:x)-[:t {w: 1 / 0}]->(b:y)", "error 12", "Hold 2 x 0 2; Hold 2 y 0 2")
	asks(t, chapter(), "create (a:x {k: 1 / 0})-[:t]->(b:y)", "error 12", "")
	asks(t, chapter(), "match (a:town) optional match (a)-[]->(b) create (n:new)-[:t {k: a.k}]->(b)", "error 10", "Nodes town; Node 3; Node 3; Out 3; Hold 2 new 0 2")
	asks(t, chapter(), "match (a:town) optional match (a)-[]->(b) create (b)-[:t]->(:new)", "error 10", "Nodes town; Node 3; Node 3; Out 3")
}

// TestP1305CreateFaults: what cannot be a property, or is not there.
func TestP1305CreateFaults(t *testing.T) {
	fails(t, chapter(), api.ErrProps, "match (a:town) create (b:x {k: a})", "match ()-[e]->() create (b:x {k: e})", "match (a:town) create (a)-[:t {k: a}]->(:x)")
	fails(t, chapter(), api.ErrKind, "match (a:town) optional match (a)-[]->(b) create (b)", "match (a:town) optional match (a)-[]->(b) create (a)-[:t]->(b)")
	fails(t, chapter(), api.ErrGone, "match (a:town) detach delete a create (a)-[:t]->(:x)", "match (a:town) detach delete a create (:x)-[:t]->(a)")
	fails(t, chapter(), api.ErrZero, "create (a:x) create (b:x {k: 1 / 0})", "match (a) create (b:x {k: 1 / (coalesce(a.pop, 5) - 5)})")
	gives(t, chapter(), "match (a:town) detach delete a create (a)", " | gone 3")
}

// TestP1305Merge: the first node that has all of it, or a new one.
func TestP1305Merge(t *testing.T) {
	asks(t, bush(), "merge (a:y {k: 1}) return a", "(5)", "Find y k 1; Node 5")
	asks(t, bush(), "merge (a:x) return a", "(1)", "Nodes x; Node 1")
	asks(t, bush(), "merge (a:nix) return a", "(-1) | made 1", "Nodes nix; Hold 2 nix 0 2")
	asks(t, bush(), "merge (:nix)", " | made 1", "Nodes nix; Hold 2 nix 0 2")
	asks(t, bush(), "merge (a:x {k: 2, s: 'two'}) return a.k, a.s", "2 'two' | made 1", "Find x k 2; Node 2; Hold 2 x 0 2")
	asks(t, bush(), "merge (a:x {s: 'one', k: 2}) return a", "(2)", "Find x s 'one'; Node 2")
	asks(t, bush(), "merge (a:y {k: 2}) return a", "(-1) | made 1", "Find y k 2; Hold 2 y 0 2")
	asks(t, bush(), "match (b) merge (a:new {k: b.k}) return a", "(-1); (-2); (-3); (-1); (-4) | made 4",
		"Nodes; Node 1; Node 2; Node 4; Node 5; Node 9; Node 1; Find new k 1; Hold 2 new 0 2; Node 2; Find new k 2; Hold 2 new 0 2; Node 4; Find new k 1+0i; Hold 2 new 0 2; Node 5; Find new k 1; Node 9; Find new k 'a'; Hold 2 new 0 2")
	gives(t, bush(), "match (b:x) merge (:new)", " | made 1")
	leaves(t, bush(), "merge (a:new {z: 1, b: 2})", " | made 1", api.Delta{NewNodes: []api.Node{nd(-1, "new", "b", num(2), "z", num(1))}})
	twins := crowd(3)
	twins.Nodes[0].Props, twins.Nodes[1].Props, twins.Nodes[2].Props = props("j", num(0), "k", num(1)), props("j", num(2), "k", num(1)), props("j", num(2), "k", num(1))
	asks(t, twins, "merge (a:n {k: 1, j: 2}) return a", "(2)", "Find n k 1; Node 1; Node 2")
}

// TestP1305MergeFaults: all pairs are evaluated ahead of the question whether they can be properties.
func TestP1305MergeFaults(t *testing.T) {
	asks(t, bush(), "merge (a:x {k: null})", "error 74", "")
	asks(t, bush(), "match (b:z) merge (a:x {k: b.nix, j: b.k})", "error 74", "Nodes z; Node 9; Node 9; Node 9")
	asks(t, bush(), "match (b:z) merge (a:x {k: b, j: 1 / 0})", "error 12", "Nodes z; Node 9")
	fails(t, bush(), api.ErrProps, "match (b:x) merge (a:x {k: b})", "match ()-[e]->() merge (a:x {k: e})", "match (b:x) merge (a:x {k: 1, j: b.nix})")
}

// TestP1305Set: a value, or null; of nodes and of edges; row by row, action by action.
func TestP1305Set(t *testing.T) {
	gives(t, chapter(), "match (a:city) set a.pop = 1, a.name = a.pop + 1 return a.name", "2; 2 | set 4")
	gives(t, chapter(), "match (a:city), (b:city) set a.pop = coalesce(b.pop, 0) + 1 return a.pop", "1; 1; 3; 3 | set 4")
	gives(t, chapter(), "match (a)-[e:road]->(b) set e.len = e.len * 2 return e.len", "8; 2 | set 2")
	leaves(t, chapter(), "match (a {name: 'ulm'})-[e:road]->(b) set a.pop = null set e.len = null set b.name = b.name", " | set 3",
		api.Delta{SetNodes: []api.PropSet{{Id: 1, Key: "pop"}, {Id: 2, Key: "name", Val: str("bern")}}, SetEdges: []api.PropSet{{Id: 1, Key: "len"}}})
	asks(t, chapter(), "match (a:town) optional match (a)-[e]->(b) set b.k = 1 / 0, e.k = a.k set a.k = 1 return a.k", "1 | set 1", "Nodes town; Node 3; Node 3; Out 3; Hold 3  3 5; Node 3; Node 3")
	asks(t, chapter(), "match (a:town)<-[e:rail]-(b) set e.k = a.k", " | set 1", "Nodes town; Node 3; In 3; Edge 2; Edge 3; Node 1; Node 3; Edge 3; Hold 3  1 5")
	gives(t, chapter(), "create (a:x)-[e:t]->(b:y) set a.k = 1, e.k = 2 return a.k, e.k", "1 2 | made 3 | set 2")
}

// TestP1305Remove: a property is taken away; one that is not there, too.
func TestP1305Remove(t *testing.T) {
	leaves(t, chapter(), "match (a {name: 'ulm'})-[e:road]->(b) remove a.pop, a.nix, e.len", " | set 3",
		api.Delta{SetNodes: []api.PropSet{{Id: 1, Key: "nix"}, {Id: 1, Key: "pop"}}, SetEdges: []api.PropSet{{Id: 1, Key: "len"}}})
	asks(t, chapter(), "match (a:town) optional match (a)-[e]->(b) remove b.k, e.k, a.k", " | set 1", "Nodes town; Node 3; Node 3; Out 3; Hold 3  3 5; Node 3")
}

// TestP1305SetFaults: what cannot be set, and of what nothing can be set.
func TestP1305SetFaults(t *testing.T) {
	fails(t, chapter(), api.ErrProps, "match (a:town) set a.k = a", "match (a)-[e]->(b) set e.k = e", "match (a:town) set a.a = 1, a.b = 1, a.c = 1, a.d = 1, a.e = 1, a.f = 1, a.g = 1, a.h = 1, a.i = 1")
	fails(t, chapter(), api.ErrGone, "match (a:town) detach delete a set a.k = 1", "match ()-[e]->() delete e remove e.k")
	fails(t, chapter(), api.ErrZero, "match (a) set a.k = 1 set a.k = a.k / 0")
}

// TestP1305Delete: what is deleted already is passed over, and not counted again.
func TestP1305Delete(t *testing.T) {
	leaves(t, chapter(), "match (a)-[e]-(b) delete e return count(*)", "6 | gone 3", api.Delta{DelEdges: []int64{1, 2, 3}})
	leaves(t, chapter(), "match (a:city), (b:city) detach delete a return count(*)", "4 | gone 5", api.Delta{DelEdges: []int64{1, 2, 3}, DelNodes: []int64{1, 2}})
	leaves(t, chapter(), "match (a)-[e]->(b) delete e delete a, b", " | gone 6", api.Delta{DelEdges: []int64{1, 2, 3}, DelNodes: []int64{1, 2, 3}})
	leaves(t, chapter(), "create (a:x)-[e:t]->(b:y) delete e, a", " | made 3 | gone 2", api.Delta{NewNodes: []api.Node{nd(-2, "y")}})
	asks(t, chapter(), "match (a:town) optional match (a)-[e]->(b) delete e, b detach delete e, b", "", "Nodes town; Node 3; Node 3; Out 3")
	asks(t, chapter(), "match ()-[e:rail]->() delete e detach delete e", " | gone 1", "Nodes; Node 1; Out 1; Edge 1; Edge 3; Node 3; Node 2; Out 2; Edge 2; Node 3; Out 3; Edge 3; Hold 3  1 5; Hold 3  3 5")
	gives(t, bush(), "match (a {k: 2}) detach delete a", " | gone 6")
	gives(t, bush(), "match (a:z) delete a", " | gone 1")
	fails(t, bush(), api.ErrHasEdges, "match (a) delete a", "match (a:x) delete a", "match (a:z) delete a with 1 as one match (b:x) delete b")
}

// TestP1305Abort: for the first row that there is; all is undone.
func TestP1305Abort(t *testing.T) {
	fails(t, chapter(), api.ErrAborted, "abort", "create (a:x) abort", "match (a) set a.k = 1 abort", "match (a:city) with a limit 1 abort return a", "optional match (a:nix) abort")
	gives(t, chapter(), "match (a:nix) abort", "")
	gives(t, chapter(), "create (b:new) with b match (a:nix) abort return a", " | made 1")
}

// TestP1305Forgiven: of all errors a delete is forgiven ErrGone alone, and no other action is.
func TestP1305Forgiven(t *testing.T) {
	for text, forgiven := range map[string]bool{"match (a:town) detach delete a": true, "match ()-[e:rail]->() delete e": true, "match (a:town) set a.k = 1": false, "match (a:town) create (a)-[:t]->(a)": false, "merge (a:new)": false} {
		v, s := over(t, chapter())
		compiled(t, text).Run(s, api.MaxFuel)
		last := len(v.log) - 1
		for _, code := range []api.Errno{api.ErrGone, api.ErrBlocked, api.ErrNoNode} {
			want := code
			if forgiven && code == api.ErrGone {
				want = api.OK
			}
			v, s := over(t, chapter())
			v.failAt, v.code = last, code
			got, answer := compiled(t, text).Run(s, api.MaxFuel)
			same(t, text, answer, want)
			same(t, text+": gone", got.Gone, 0)
			same(t, text+": the mark", s.Mark(), 0)
		}
	}
}
