package machine_test

import (
	"testing"

	"trellis/api"
)

// TestP1305SoughtNode: which nodes are candidates, which fit, and what is asked.
func TestP1305SoughtNode(t *testing.T) {
	asks(t, bush(), "match (a) return a", "(1); (2); (4); (5); (9)", "Nodes; Node 1; Node 2; Node 4; Node 5; Node 9")
	asks(t, bush(), "match (:y) return 1 as one", "1; 1", "Nodes y; Node 4; Node 5")
	asks(t, bush(), "match (a:nix) return a", "", "Nodes nix")
	asks(t, bush(), "match (a {k: 1}) return a", "(1); (5)", "Nodes; Node 1; Node 2; Node 4; Node 5; Node 9")
	asks(t, bush(), "match (a:y {k: 1}) return a", "(5)", "Find y k 1; Node 5")
	asks(t, bush(), "match (a:y {k: 1 + 0i}) return a", "(4)", "Find y k 1+0i; Node 4")
	asks(t, bush(), "match (a:x {k: null}) return a", "", "Find x k null")
	asks(t, bush(), "match (a {k: null}) return a", "", "Nodes; Node 1; Node 2; Node 4; Node 5; Node 9")
	asks(t, bush(), "match (a:x {k: 2, s: 'one'}) return a", "(2)", "Find x k 2; Node 2")
	asks(t, bush(), "match (a:x {k: 2, s: 'two'}) return a", "", "Find x k 2; Node 2")
	asks(t, bush(), "match (a:x {s: 'one', k: 2}) return a", "(2)", "Find x s 'one'; Node 2")
	asks(t, bush(), "match (a:x {k: 1, nix: null}) return a", "", "Find x k 1; Node 1")
}

// TestP1305PairsAgain: the pairs are evaluated each time that the node is come to, in the row as it is then.
func TestP1305PairsAgain(t *testing.T) {
	asks(t, bush(), "match (a:x), (b:y {k: a.k}) return a, b", "(1) (5)", "Nodes x; Node 1; Node 1; Find y k 1; Node 5; Node 2; Node 2; Find y k 2")
	asks(t, bush(), "match (a:x) match (b:y {k: a.k}) return a, b", "(1) (5)", "Nodes x; Node 1; Node 2; Node 1; Find y k 1; Node 5; Node 2; Find y k 2")
	asks(t, bush(), "match (a:x {k: 2})-[e {w: a.k}]->(b) return e", "[6]", "Find x k 2; Node 2; Node 2; Out 2; Edge 3; Edge 4; Edge 6; Node 4")
	asks(t, bush(), "match (a:x {k: 2})-[e]->(b {k: e.w - 5}) return e", "[4]", "Find x k 2; Node 2; Out 2; Edge 3; Edge 3; Node 1; Edge 4; Edge 4; Node 2; Edge 6; Edge 6; Node 4")
	asks(t, bush(), "match (a:x {k: 1}) match (a {k: a.k, b: a.k = 1}) return a", "(1)", "Find x k 1; Node 1; Node 1; Node 1; Node 1")
}

// TestP1305BoundNode: a variable that is bound stands for its node alone, or, if it is null, for none.
func TestP1305BoundNode(t *testing.T) {
	asks(t, bush(), "match (a:x) match (a {k: 2}) return a", "(2)", "Nodes x; Node 1; Node 2; Node 1; Node 2")
	asks(t, bush(), "match (a:x) match (a:y) return a", "", "Nodes x; Node 1; Node 2; Node 1; Node 2")
	asks(t, bush(), "match (a:x {k: 1}), (a), (a:x {k: 1}) return a", "(1)", "Find x k 1; Node 1; Node 1; Node 1")
	asks(t, bush(), "match (c:z) optional match (c)-[]->(d) match (d {k: c.k}) return d", "", "Nodes z; Node 9; Node 9; Out 9; Node 9")
	asks(t, bush(), "match (c:z) optional match (c)-[]->(d) match (a:y {k: 1})-[]->(d {k: c.k}) return a", "", "Nodes z; Node 9; Node 9; Out 9; Find y k 1; Node 5; Out 5; Edge 8; Node 9")
	asks(t, bush(), "match (a:x {k: 1}), (b:x {k: 2}) match (a)-[e]->(b) return e", "[1]; [2]", "Find x k 1; Node 1; Find x k 2; Node 2; Node 1; Out 1; Edge 1; Node 2; Edge 2; Node 2")
	asks(t, bush(), "match (b:x {k: 2}), (c:z) match (b)-[e]->(c) return e", "", "Find x k 2; Node 2; Nodes z; Node 9; Node 2; Out 2; Edge 3; Edge 4; Edge 6")
	asks(t, bush(), "match (a:y)-[e]->(a) return a", "", "Nodes y; Node 4; Out 4; Edge 7; Node 5; Out 5; Edge 8")
	gives(t, bush(), "match (a)-[e]->(a) return a, e", "(2) [4]")
}

// TestP1305SoughtHop: the three directions; a ring is met once.
func TestP1305SoughtHop(t *testing.T) {
	asks(t, bush(), "match (a:x {k: 1})-[e]->(b) return e, b", "[1] (2); [2] (2)", "Find x k 1; Node 1; Out 1; Edge 1; Node 2; Edge 2; Node 2")
	asks(t, bush(), "match (a:x {k: 1})<-[e]-(b) return e, b", "[3] (2); [8] (5)", "Find x k 1; Node 1; In 1; Edge 3; Node 2; Edge 8; Node 5")
	asks(t, bush(), "match (a:x {k: 2})-[e]-(b) return e, b", "[3] (1); [4] (2); [6] (4); [1] (1); [2] (1)",
		"Find x k 2; Node 2; Out 2; In 2; Edge 3; Node 1; Edge 4; Node 2; Edge 6; Node 4; Edge 1; Node 1; Edge 2; Node 1")
	gives(t, bush(), "match (a)-[e]-(a) return a, e", "(2) [4]")
	gives(t, bush(), "match (a)<-[e]-(a) return a, e", "(2) [4]")
	asks(t, bush(), "match (a:x {k: 1})-[e:t {w: 1}]->(b:x) return e", "[2]", "Find x k 1; Node 1; Out 1; Edge 1; Edge 2; Node 2")
	asks(t, bush(), "match (a:x {k: 1})-[e:u]->(b) return e", "", "Find x k 1; Node 1; Out 1; Edge 1; Edge 2")
	asks(t, bush(), "match (a:x {k: 1})-[:t]->(b:y) return b", "", "Find x k 1; Node 1; Out 1; Edge 1; Node 2; Edge 2; Node 2")
	gives(t, bush(), "match ()-[e {w: 2 + 1}]->() return e", "[1]")
	gives(t, bush(), "match ()-[e:u {w: null}]->() return e", "")
	gives(t, bush(), "match ()-[e:u {w: 7, v: 1}]->() return e", "")
	gives(t, bush(), "match ()<-[e:u {w: 7}]-() return e", "[4]")
	gives(t, bush(), "match (a)-[e:t]->(b)-[f:t]->(c) return e, f", "[1] [6]; [2] [6]; [6] [7]")
}

// TestP1305Used: an edge is used once in a match, in all its paths, and again in the next one.
func TestP1305Used(t *testing.T) {
	gives(t, bush(), "match (a:x {k: 1})-[e:t]->(b), (c)-[f:t]->(b) return e, c, f", "[1] (1) [2]; [2] (1) [1]")
	gives(t, bush(), "match (a:x {k: 1})-[e:t]->(b) match (c)-[f:t]->(b) return e, f", "[1] [1]; [1] [2]; [2] [1]; [2] [2]")
	asks(t, bush(), "match (a:x {k: 1})-[e]->(b)<-[f]-(c) return e, f, c", "[1] [2] (1); [1] [4] (2); [2] [1] (1); [2] [4] (2)",
		"Find x k 1; Node 1; Out 1; Edge 1; Node 2; In 2; Edge 2; Node 1; Edge 4; Node 2; Edge 2; Node 2; In 2; Edge 1; Node 1; Edge 4; Node 2")
	asks(t, bush(), "match (a:x {k: 1})-[e {w: 1}]->(b)<-[e]-(c) return c", "", "Find x k 1; Node 1; Out 1; Edge 1; Edge 2; Node 2; In 2")
	gives(t, bush(), "match (a {k: 2})-[:u*2]-(b), (c)-[e:u]->(d) return b, e", "(5) [4]; (1) [8]")
}

// TestP1305BoundEdge: of a variable that is bound other edges are passed over unasked.
func TestP1305BoundEdge(t *testing.T) {
	asks(t, bush(), "match (a:x {k: 1})-[e {w: 3}]->(b) match (c)-[e]->(d) return c, d", "(1) (2)",
		"Find x k 1; Node 1; Out 1; Edge 1; Node 2; Edge 2; Nodes; Node 1; Out 1; Edge 1; Node 2; Node 2; Out 2; Node 4; Out 4; Node 5; Out 5; Node 9; Out 9")
	asks(t, bush(), "match (a:x {k: 1})-[e {w: 3}]->(b) match (b)-[e:u]-(d) return d", "", "Find x k 1; Node 1; Out 1; Edge 1; Node 2; Edge 2; Node 2; Out 2; In 2; Edge 1")
	asks(t, bush(), "match (c:z) optional match (c)-[e]->(d) match (a:x {k: 1})-[e]->(b) return a", "", "Nodes z; Node 9; Node 9; Out 9; Find x k 1; Node 1; Out 1")
}

// TestP1305Star: ways of several edges, the shorter ahead of what goes on behind it, each edge once on a way.
func TestP1305Star(t *testing.T) {
	asks(t, bush(), "match (a:x {k: 1})-[:t*2]->(b) return b", "(4); (4)",
		"Find x k 1; Node 1; Out 1; Edge 1; Out 2; Edge 3; Edge 4; Edge 6; Node 4; Edge 2; Out 2; Edge 3; Edge 4; Edge 6; Node 4")
	asks(t, bush(), "match (a:x {k: 2})-[:u*]->(b) return b", "(1); (2); (1)",
		"Find x k 2; Node 2; Out 2; Edge 3; Node 1; Out 1; Edge 1; Edge 2; Edge 4; Node 2; Out 2; Edge 3; Node 1; Out 1; Edge 1; Edge 2; Edge 6; Edge 6")
	asks(t, bush(), "match (a:x {k: 1})-[:t* {w: a.k}]->(b) return b", "(2)", "Find x k 1; Node 1; Node 1; Out 1; Edge 1; Edge 2; Node 2; Out 2; Edge 3; Edge 4; Edge 6")
	gives(t, bush(), "match (a:x {k: 1}), (b:y {k: 1}) match (a)-[:t*]->(b) return b", "(5); (5)")
	gives(t, bush(), "match (a:y {k: 1})<-[:t*1..2]-(b) return b", "(4); (2)")
	gives(t, bush(), "match (a:y {k: 1})<-[:t*3]-(b) return b", "(1); (1)")
	gives(t, bush(), "match (a:y {k: 1})-[:t*2]-(b) return b", "(2)")
	gives(t, bush(), "match (a:x {k: 1})-[:t*2]-(b) return b", "(4); (1); (4); (1)")
	asks(t, bush(), "match (a:y {k: 1})-[*1]->(b) return b", "(1)", "Find y k 1; Node 5; Out 5; Edge 8; Node 1")
	asks(t, bush(), "match (a:y {k: 1})-[*2..2 {w: 'far'}]->(b) return b", "", "Find y k 1; Node 5; Out 5; Edge 8; Out 1; Edge 1; Edge 2")
	line := crowd(7)
	for i := range int64(6) {
		line.Edges = append(line.Edges, ed(i+1, "t", i+1, i+2))
	}
	line.Nodes[0].Label = "first"
	gives(t, line, "match (a:first)-[*]->(b) return b", "(2); (3); (4); (5); (6)")
	gives(t, line, "match (a:first)-[*5]->()-[]->(b) return b", "(7)")
}

// TestP1305Where: as soon as a solution is found; what is neither true nor false nor null is no condition.
func TestP1305Where(t *testing.T) {
	asks(t, bush(), "match (a) where a.k = 1 return a", "(1); (4); (5)", "Nodes; Node 1; Node 1; Node 2; Node 2; Node 4; Node 4; Node 5; Node 5; Node 9; Node 9")
	gives(t, bush(), "match (a) where a.s = 'one' return a", "(2)")
	gives(t, bush(), "match (a) where a.b return a", "(1)")
	gives(t, bush(), "match (a) where null return a", "")
	gives(t, bush(), "match (a) where false return a", "")
	asks(t, bush(), "match (a:x) match (b:y) where a.k = b.k return a, b", "(1) (4); (1) (5)", "Nodes x; Node 1; Node 2; Nodes y; Node 4; Node 1; Node 4; Node 5; Node 1; Node 5; Nodes y; Node 4; Node 2; Node 4; Node 5; Node 2; Node 5")
	fails(t, bush(), api.ErrKind, "match (a) where a.k return a", "match (a)-[e]->(b) with a as v match (c) where v return c", "match (a:x) where -a.b return a")
	asks(t, bush(), "match (a) where case when a.k = 2 then a.k else true end return a", "error 10", "Nodes; Node 1; Node 1; Node 2; Node 2; Node 2")
}

// TestP1305Optional: where no row stays what the match would bind is null.
func TestP1305Optional(t *testing.T) {
	gives(t, bush(), "match (a:x) optional match (a)-[e:t]->(b) where e.w > 2 return a, e, b", "(1) [1] (2); (2) null null")
	gives(t, bush(), "match (a:z) optional match (a)-[e]->(b), (c:x) return a, e, b, c", "(9) null null null")
	gives(t, bush(), "match (a:z) optional match (c:x), (a)-[e]->(b) return a, c, e, b", "(9) null null null")
	gives(t, bush(), "match (a:nix) optional match (b) return b", "")
	gives(t, bush(), "optional match (a:nix) return a", "null")
	gives(t, bush(), "optional match (a:x) return a", "(1); (2)")
	gives(t, bush(), "match (a:z) optional match (a)-[]->(b) optional match (b)-[]->(c) return a, b, c", "(9) null null")
	gives(t, bush(), "match (a) optional match (a)-[e:u]->(b) return a, e", "(1) null; (2) [3]; (2) [4]; (4) null; (5) [8]; (9) null")
	fails(t, bush(), api.ErrKind, "optional match (a) where a.k return a")
}

// TestP1305Rows: 2000 rows are fine; the one behind them is an error as soon as it would stay.
func TestP1305Rows(t *testing.T) {
	gives(t, crowd(api.MaxRows), "match (a) return count(*)", "2000")
	for _, text := range []string{"match (a) return 1", "match (a) return count(*)", "match (a) with a limit 1 return a", "optional match (a) return 1"} {
		gives(t, crowd(api.MaxRows+1), text, "error 130")
	}
	gives(t, crowd(44), "match (a), (b) return count(*)", "1936")
	gives(t, crowd(44), "match (a) match (b) return count(*)", "1936")
	gives(t, crowd(45), "match (a), (b) return 1", "error 130")
	gives(t, crowd(45), "match (a) match (b) return 1", "error 130")
	gives(t, crowd(45), "match (a), (b) where a <> b return count(*)", "1980")
	g := crowd(api.MaxRows + 1)
	g.Nodes[api.MaxRows].Props = props("k", num(1))
	gives(t, g, "match (a) where a.k is null return count(*)", "2000")
	gives(t, g, "match (a) where case when a.k is null then true else 1 / 0 = 1 end return a", "error 12")
	fails(t, crowd(api.MaxRows), api.ErrRows, "match (a) return a", "create (b:x) with b match (a) return a")
	v, s := over(t, crowd(api.MaxRows+9))
	runs(t, s, "match (a) return a.k", "error 130")
	same(t, "how much was asked", len(v.log), 1+api.MaxRows+1)
}

// TestP1305OptionalRows: a row of nulls counts as any other.
func TestP1305OptionalRows(t *testing.T) {
	g := crowd(api.MaxRows)
	gives(t, g, "match (a) optional match (a)-[]->(b) return count(*), count(b)", "2000 0")
	g.Edges = []api.Edge{ed(1, "t", 1, 2)}
	gives(t, g, "match (a) optional match (a)-[]->(b) return count(*), count(b)", "2000 1")
	g.Edges = append(g.Edges, ed(2, "t", 1, 2))
	gives(t, g, "match (a) optional match (a)-[]->(b) return count(*)", "error 130")
}

// TestP1305OwnSought: what the space has made and changed is found, behind what was there.
func TestP1305OwnSought(t *testing.T) {
	_, s := over(t, chapter())
	runs(t, s, "create (a:city {name: 'rom'})-[:road {len: 9}]->(b:town)", " | made 3")
	runs(t, s, "match (a:city) return a", "(1); (2); (-1)")
	runs(t, s, "match (a:city {name: 'rom'})-[e]->(b) return a, e, b", "(-1) [-1] (-2)")
	runs(t, s, "match (a {name: 'bern'}), (t:town {k: null}) return a", "")
	runs(t, s, "match (a {name: 'bern'}) set a.name = 'basel'", " | set 1")
	runs(t, s, "match (a:city {name: 'bern'}) return a", "")
	runs(t, s, "match (a:city {name: 'basel'})<-[e]-(b) return e, b", "[1] (1)")
	runs(t, s, "match (a:town)<-[e]-(b) return a, e", "(3) [2]; (3) [3]; (-2) [-1]")
}
