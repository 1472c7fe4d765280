package check_test

import (
	"testing"

	"trellis/api"
	"trellis/check"
)

// scope: what Check tells of a query that neither writes nor aggregates.
func scope(cols []string, vars ...api.Bound) api.Scope { return api.Scope{Vars: vars, Cols: cols} }

// changing: what Check tells of a query that writes and gives nothing.
func changing(vars ...api.Bound) api.Scope { return api.Scope{Vars: vars, Writes: true} }

func one() []string { return []string{"1"} }

// TestP1103SoughtNodes: pairs one by one, each key ahead of its expression; then the variable.
func TestP1103SoughtNodes(t *testing.T) {
	checks(t, "match () return 1", scope(one()))
	checks(t, "match (a), (a), (b), (a) return 1", scope(one(), nodeVar("a"), nodeVar("b")))
	checks(t, "match (a), (a {k: a.k, j: a.k}) return 1", scope(one(), nodeVar("a")))
	fine(t, "match (a {k: 1}), (b {k: 1}) return 1", "match (match1:abc) return 1", "match ({k: null}) return 1")
	fails(t, api.ErrTwice, "match (a {k: 1, k: b}) return 1", "match ({j: 1, k: 2, j: 3}) return 1", "match (a), ({k: 1, l: 2, m: a.k, l: 3}) return 1")
	fails(t, api.ErrUnbound, "match (a {k: b, k: 1}) return 1", "match (a {k: a}) return 1", "match (a {k: a.k}) return 1", "match ()-[e]->(e {k: b}) return 1", "match (a {k: b.k}), (b) return 1")
	fails(t, api.ErrKind, "match ({k: 1 + 'a'}) return 1", "match ({k: -'a', k: 1}) return 1", "match ()-[e]->(e {k: -'a'}) return 1")
	fails(t, api.ErrPlace, "match ({k: count(*)}) return 1", "match (a), ({k: sum(a.k)}) return 1")
	fails(t, api.ErrMix, "match ()-[e]->(e {k: 1}) return 1", "match ()-[e]->(), (e) return 1", "match (a) with a.k as v match (v) return 1", "match ()-[e]->() match (e:x) return 1", "match (a) with a as b, 1 as v match (b), (v) return 1")
	fine(t, "match (a) with a as b match (b), (c {k: b.k}) return 1")
}

// TestP1103SoughtHops: a variable for many edges first; then pairs, the variable, the node behind.
func TestP1103SoughtHops(t *testing.T) {
	checks(t, "match (a)-[e]->(b)<-[f]-(c)-[g]-(d) return 1", scope(one(), nodeVar("a"), edgeVar("e"), nodeVar("b"), edgeVar("f"), nodeVar("c"), edgeVar("g"), nodeVar("d")))
	checks(t, "match (a)-[]->(b)-[e {k: a.k, j: b.k}]->({k: e.k}), ()-[e]-() return 1", scope(one(), nodeVar("a"), nodeVar("b"), edgeVar("e")))
	checks(t, "match (a)-[*2..3 {k: a.k}]->(a) return 1", scope(one(), nodeVar("a")))
	fine(t, "match ()-[e]->() match ()-[e]-() return 1", "match ()-[e]->() with e as f match ()-[f]->() return 1", "match ({k: 1})-[{k: 1}]->({k: 1}) return 1")
	fails(t, api.ErrPlace, "match ()-[e*1..2 {k: b}]->() return 1", "match (e)-[e*1..2]->() return 1", "match ()-[e*1..1]->() return 1", "match ()-[{k: count(*)}]->() return 1")
	fails(t, api.ErrUnbound, "match (a)-[a {k: b}]->() return 1", "match ()-[e {k: e.k}]->() return 1", "match ()-[{k: b.k}]->(b) return 1", "match ()-[*1..2 {k: b}]->() return 1")
	fails(t, api.ErrTwice, "match (a)-[a {k: 1, k: 1}]->() return 1", "match ()-[*1..2 {k: 1, j: 2, k: b}]->() return 1")
	fails(t, api.ErrKind, "match (a)-[a {k: not 1}]->() return 1")
	fails(t, api.ErrMix, "match (a)-[a]->({k: b}) return 1", "match (a)-[a {k: 1}]->() return 1", "match (a) with 1 as v match ()-[v]->() return 1", "match ()-[e]->()-[]->(e) return 1", "match (a)-[]->()-[a]-() return 1")
}

// TestP1103Where: a condition behind the paths, of what is bound so far.
func TestP1103Where(t *testing.T) {
	fine(t, "match (a) where a.k match (b) where a.k = b.k return 1", "match (a) where null return 1", "match (a) where a return 1", "match (a)-[e]->() where e.k and a.k return 1", "optional match (a) where true return 1", "match (a) where (not a.k) is null return 1", "match (a) with a.k as v match (b) where v return 1")
	fails(t, api.ErrUnbound, "match (a) where b return 1", "match (a) where b.k match (b) return 1", "optional match (a) where b return 1", "match (a) where 1 + b return 1", "match (a) where b = count(a) return 1")
	fails(t, api.ErrMix, "match (a)-[a]->() where b return 1", "match (a) where type(a) = 'x' return 1")
	fails(t, api.ErrPlace, "match (a) where count(*) return 1", "match (a) where a.k = count(*) return 1", "match (a) where a.k = count(b) return 1", "match (a) where count(a.k) = b return 1", "match (a) where max(true) return 1")
	fails(t, api.ErrKind, "match (a) where 1 return 1", "match (a) where 'true' return 1", "match (a) where 1i return 1", "match (a) where -'a' return 1", "match (a) where coalesce(a, a, 1) return 1", "match (a) where 1 match (a)-[a]->() return 1", "match (a) where coalesce(label(a), 1) return 1")
	fails(t, api.ErrKind, "match (a) where 1 create (a:x)", "match (a) where 1 return b")
	fails(t, api.ErrUnbound, "match (a), (b {k: c}) where 1 return 1")
}

// TestP1103MadeNodes: pairs; then what is bound already, or the label.
func TestP1103MadeNodes(t *testing.T) {
	checks(t, "create (a:x)", changing(nodeVar("a")))
	checks(t, "create (:x)", changing())
	checks(t, "create (:x {k: 1, j: null})", changing())
	checks(t, "match (a) create (a) create (b:x {k: a.k}) create (b)", changing(nodeVar("a"), nodeVar("b")))
	checks(t, "match (a) with a as b create (b)-[:t]->(b)", changing(nodeVar("b")))
	fails(t, api.ErrTwice, "match (a) create (a:x)", "match (a) create (a {k: 1})", "create (a:x) create (a:x)", "create ({k: 1, k: b})", "match (a) create (a:x {k: 1})", "match ()-[e]->() create (e {k: 1, k: 1})", "create (a:x), (a:y)")
	fails(t, api.ErrUnbound, "create ({k: b})", "create (a:x {k: a.k})", "match ()-[e]->() create (e {k: b})", "match (a) create (a:x {k: b})")
	fails(t, api.ErrMix, "match ()-[e]->() create (e)", "match ()-[e]->() create (e:x)", "match (a) with a.k as v create (v)", "match ()-[e]->() create (e {k: 1})", "match (a) with 1 as v create (v:x)")
	fails(t, api.ErrName, "create (a)", "create ()", "create (a {k: 1})", "create ({k: 1})")
	fails(t, api.ErrKind, "create (a {k: 1 + 'a'})")
	fails(t, api.ErrPlace, "create (a {k: count(*)})")
}

// TestP1103MadeHops: what a single edge is; its type; the node behind; then pairs and variable.
func TestP1103MadeHops(t *testing.T) {
	checks(t, "create (a:x)-[e:t {k: b.k}]->(b:x)<-[f:t {k: e.k}]-(c:x)", changing(nodeVar("a"), nodeVar("b"), edgeVar("e"), nodeVar("c"), edgeVar("f")))
	checks(t, "match (a) create (a)<-[:t]-(a)-[:t]->(b:y {k: a.k})", changing(nodeVar("a"), nodeVar("b")))
	fails(t, api.ErrPlace, "create (:x)-[:t]-(:x)", "create (:x)-[:t*1..1]->(:x)", "create (:x)-[*1..1]->(:x)", "create (:x)-[]-(:x)", "create (:x)-[:t]-(a)", "create (:x)-[:t {k: b}]-(:x)", "create (:x)-[:t {k: count(*)}]->(:x)", "create (a:x)-[a:t*2]->(:x)")
	fails(t, api.ErrName, "create (:x)-[]->(:x)", "create (:x)-[]->({k: b})", "create (:x)-[{k: b}]->(:x)", "create (:x)-[:t]->()", "create (:x)-[:t {k: b}]->()", "create (a:x)-[a:t]->()", "create (a:x)-[a]->(:x)", "create ()-[:t]-(:x)", "create ()-[]->(:x)")
	fails(t, api.ErrUnbound, "create (:x)-[e:t {k: e.k}]->(:x)", "create (:x)-[:t]->({k: b})", "create (a:x)-[a:t {k: b}]->(:x)", "create (:x)-[e:t]->(:x {k: e.k})")
	fails(t, api.ErrTwice, "create (:x)-[e:t {k: 1, k: b}]->(:x)", "create (a:x)-[a:t]->(:x)", "create (:x)-[a:t]->(a:x)", "match ()-[e]->() create (:x)-[e:t]->(:x)", "match (a) with a.k as v create (:x)-[v:t]->(:x)", "create (:x)-[e:t]->(:x)-[e:t]->(:x)", "create (a:x)-[:t]->(a:x)", "match (a) create (a)-[:t]->(a:x)")
	fails(t, api.ErrMix, "match ()-[e]->() create (:x)-[:t]->(e)", "create (:x)-[e:t]->(:x) create (e)")
	fails(t, api.ErrKind, "create (:x)-[e:t {k: not 'a'}]->(:x)")
	fine(t, "create (:x)-[e:t {k: 1}]->(:x {k: 1}) create (:x)-[f:t {k: e.k}]->(:x)")
}

// TestP1103Merge: pairs; a variable that is bound; the label.
func TestP1103Merge(t *testing.T) {
	checks(t, "merge (a:x {k: 1}), (b:x {k: a.k}), (:x)", changing(nodeVar("a"), nodeVar("b")))
	fails(t, api.ErrUnbound, "merge (a:x {k: a.k})", "match (a) merge (a {k: b})", "merge ({k: b})")
	fails(t, api.ErrTwice, "match (a) merge (a:x)", "match (a) merge (a)", "merge (a:x), (a:x)", "match ()-[e]->() merge (e:x)", "match (a) with 1 as v merge (v)", "match (a) merge (a {k: 1, k: 1})")
	fails(t, api.ErrName, "merge (a)", "merge ()", "merge ({k: 1})")
	fails(t, api.ErrPlace, "merge (a {k: count(*)})")
	fails(t, api.ErrKind, "match (a) merge (a {k: 1 - 'a'})")
}

// TestP1103Changes: of what is bound as a node or an edge; then the value.
func TestP1103Changes(t *testing.T) {
	checks(t, "match (a)-[e]->() set a.k = e.k, e.k = a.k remove a.k, e.k delete e detach delete a", changing(nodeVar("a"), edgeVar("e")))
	fine(t, "match (a) with a as b set b.k = null", "match (a) set a.k = a", "match (a) delete a, a return a")
	fails(t, api.ErrUnbound, "set a.k = 1", "remove a.k", "delete a", "detach delete a", "match (a) set a.k = b", "set b.k = 1 + 'a'", "match (a) with a as b delete a", "delete a create (a:x)")
	fails(t, api.ErrMix, "match (a) with a.k as v set v.k = b", "match (a) with a.k as v remove v.k", "match (a) with a.k as v delete v", "match (a) with a.k as v detach delete v", "match (a) with a.k as v set v.k = count(*)")
	fails(t, api.ErrPlace, "match (a) set a.k = count(*)", "match (a) set a.k = 1 + max(a.k)")
	fails(t, api.ErrKind, "match (a) set a.k = 'a' * 2", "match (a) set a.k = re('a') abort return b")
}

// TestP1103Items: each expression, then its column.
func TestP1103Items(t *testing.T) {
	checks(t, "match (a) return a, a.k, a.k as b, 1 + 2 * a.j, count(*) as c, sum(a.k + 1) - 2", api.Scope{Vars: []api.Bound{nodeVar("a")}, Aggregates: true, Cols: []string{"a", "a.k", "b", "1 + 2 * a.j", "c", "sum(a.k + 1) - 2"}})
	checks(t, "return (1), (2 + 3) * (4)", scope([]string{"1", "(2 + 3) * 4"}))
	fine(t, "match (a) return a as b, a", "match (a), (b) return a as b, b as a", "return 1, '1'", "return 1 + 1, (1) + 1 as x")
	fails(t, api.ErrTwice, "match (a) return a, a", "return 1, 1", "return 1 as a, 2 as a", "match (a), (b) return a as b, b", "match (a) return a.k, 1, (a.k)", "return 1 as a, 2 as a, b", "return 1 as a, 2 as a order by b", "match (a) with a, 1 as a return 1", "match (a) with a as b, 1 as b return 1")
	fails(t, api.ErrUnbound, "return 1 as a, b as a", "return b, 1, 1", "match (a) return 1 as b, b", "return a.k + count(*)", "return a + count(*)")
	fails(t, api.ErrPlace, "match (a) return a.k + count(*)", "match (a) return count(*) + a.k", "match (a) return case when a.k then count(*) else 1 end", "match (a) return count(count(*))", "match (a) return max(1 + sum(a.k))", "match (a) return max(sum(min(a.k)))", "match (a) return a = max(a)", "match (a) return label(a) = max(a.k)")
	fails(t, api.ErrKind, "return 1 + 'a' as a, b", "match (a) return 1, -'a', 1", "return sum(1) + 'a'", "return count(*) and true")
	fails(t, api.ErrMix, "match (a)-[e]->() return label(e)", "match (a)-[e]->() return 1, deg(e), 1", "match (a)-[e]->() return max(label(e))")
	fine(t, "match (a) return sum('a'), min(-'a'), count(-'a'), avg(true)", "match (a) return 1 + count(*) * max(a.k) - sum(a.k)", "match (a) return a.k, count(a)", "match (a) return coalesce(max(label(a)), 'x')")
}

// TestP1103Order: by a column's number or name, and by nothing else.
func TestP1103Order(t *testing.T) {
	fine(t, "return 1 order by 1", "return 1, 2 order by 2 desc, 1, 2", "match (a) return a order by a", "match (a) return a.k as x, a order by a, x desc, 1, 2", "match (a) with a as x order by x, 1 return x", "return 1 as a order by a")
	fails(t, api.ErrUnbound, "return 1 order by 2", "return 1 order by 12", "return 1, 2 order by 1, 2, 3", "match (a) return a.k order by a", "match (a) return a as b order by a", "match (a) return a.k order by k", "match (a) with a as x order by a return x", "return 1 as a order by a, b", "match (a) with 1 as b order by a where a return 1", "match (a), (b) return a order by b", "return 1 order by a")
	fails(t, api.ErrUnbound, "match (a) with 1 as b order by 2 where 1 return 1")
}

// TestP1103With: the next part knows the columns alone, each with what a plain variable stood for.
func TestP1103With(t *testing.T) {
	checks(t, "match (a)-[e]->() with e, a as b, a.k as c, 1 as d return 1", scope(one(), edgeVar("e"), nodeVar("b"), anyVar("c"), anyVar("d")))
	checks(t, "match (a)-[e]->(b) with b as e, e as b return 1", scope(one(), nodeVar("e"), edgeVar("b")))
	checks(t, "match (a) with a.k as v with v as w, v return w, v", scope([]string{"w", "v"}, anyVar("w"), anyVar("v")))
	checks(t, "match (a) with coalesce(a, null) as b match (c) return 1", scope(one(), anyVar("b"), nodeVar("c")))
	checks(t, "match (a) with count(a) as n match (a) with n, a return n", api.Scope{Vars: []api.Bound{anyVar("n"), nodeVar("a")}, Cols: []string{"n"}, Aggregates: true})
	checks(t, "match (a) with a where a.k create (b:x)", changing(nodeVar("a"), nodeVar("b")))
	checks(t, "with 1 as a with 2 as b with 3 as c return 1", scope(one(), anyVar("c")))
	fine(t, "match (a) with a.k as v where v return v", "match (a) with a as b where b.k = 1 return b", "match (a) with a, count(*) as n where n > 1 return a", "with 1 as a where null return a", "match (a) with max(a.k) as m where m return m")
	fails(t, api.ErrUnbound, "match (a) with a as b return a", "match (a) with a.k as v where a.k return v", "match (a) with 1 as v where a return v", "match (a) with b return 1", "match (a), (b) with a return b", "match (a), (b) with a match (c) where b.k return 1")
	fails(t, api.ErrKind, "match (a) with a.k as v where 'x' return v", "with 1 as a where 1 return b", "match (a) with a where 1i match (a)-[a]->() return 1")
	fails(t, api.ErrPlace, "match (a) with a.k as v where count(*) = 1 return v", "match (a) with a where max(a.k) return a")
	fails(t, api.ErrMix, "match ()-[e]->() with e as b match (b) return 1", "match (a) with a as b return type(b)", "match (a) with coalesce(a, null) as b match (b) return 1")
	fine(t, "match (a) with coalesce(a, null) as b return type(b), label(b)")
}

// TestP1103Walk: parts in their order, and in each the matches, the actions, the columns, the keys, the condition.
func TestP1103Walk(t *testing.T) {
	bad := []struct {
		text string
		code api.Errno
	}{{"match (a)-[a]->()", api.ErrMix}, {"create (c)", api.ErrName}, {"with z", api.ErrUnbound}, {"where count(*)", api.ErrPlace}, {"create (a:x)", api.ErrTwice}, {"return 1 + 'a'", api.ErrKind}}
	good := []string{"match (a)", "create (c:x)", "with a", "where a.k", "create (b:x)", "return a"}
	for i := range bad {
		for j := i; j < len(bad); j++ {
			text := ""
			for k, clause := range good {
				if k == i || k == j {
					clause = bad[k].text
				}
				text += clause + " "
			}
			fails(t, bad[i].code, text)
		}
	}
	fails(t, api.ErrName, "create (c) create (a:x) set b.k = 1", "create (:x), (c), (d {k: b})")
	fails(t, api.ErrUnbound, "create (a:x) set b.k = 1 create (a:x)", "match (a) match (b {k: c}) match (a)-[a]->() return 1")
}

// toldOf: what Check tells of the text's tree.
func toldOf(t *testing.T, text string) api.Scope {
	t.Helper()
	got, err := check.Check(parsed(t, text))
	told(t, text, err, api.OK)
	return got
}

// TestP1103Told: what is told of a query that makes sense.
func TestP1103Told(t *testing.T) {
	checks(t, "abort", api.Scope{})
	checks(t, "match (a) abort abort", api.Scope{Vars: []api.Bound{nodeVar("a")}})
	checks(t, "abort return 1", scope(one()))
	for _, text := range []string{"create (:x)", "merge (:x)", "match (a) set a.k = 1", "match (a) remove a.k", "match (a) delete a"} {
		for _, behind := range []string{"", " abort", " return 1", " with 1 as v abort", " with 1 as v with 1 as w return 1"} {
			same(t, text+behind, toldOf(t, text+behind).Writes, true)
			same(t, text+behind, toldOf(t, "match (a) abort with a "+text+behind).Writes, true)
		}
	}
	for text, want := range map[string]bool{"return count(*)": true, "return 1, 2 + max(3)": true, "with count(*) as n return n": true, "with 1 as a with 1 + sum(a) as b return b": true, "return 1": false, "match (a) return a, coalesce(a.k, 1)": false, "match (count) return count, count.sum": false} {
		same(t, text, toldOf(t, text).Aggregates, want)
	}
	same(t, "no columns", len(toldOf(t, "match (a) with a as b delete b").Cols), 0)
}
