package check_test

import (
	"testing"

	"trellis/api"
	"trellis/check"
)

// The chapter's examples, by their numbers.

func TestP1103Example1(t *testing.T) {
	checks(t, "match (a:x)-[e:t]->(b) return a.k, e.w as w", api.Scope{Vars: []api.Bound{nodeVar("a"), edgeVar("e"), nodeVar("b")}, Cols: []string{"a.k", "w"}})
}

func TestP1103Example2(t *testing.T) {
	fails(t, api.ErrUnbound, "match (a) return b", "match (a {k: a.k}) return 1")
	fails(t, api.ErrMix, "match (a)-[a]->() return 1")
	fine(t, "match (a), (b {k: a.k}) return 1")
}

func TestP1103Example3(t *testing.T) {
	checks(t, "return count(*), 1 as one", api.Scope{Aggregates: true, Cols: []string{"count(*)", "one"}})
	fails(t, api.ErrPlace, "match (a) return count(*) + a.k", "match (a) where count(*) = 1 return 1", "match (a) return sum(count(a))")
}

func TestP1103Example4(t *testing.T) {
	fails(t, api.ErrTwice, "match (a) return a.k, a.k")
	fails(t, api.ErrUnbound, "match (a) return a.k as x order by y", "match (a) return a.k as x order by 2")
	fine(t, "match (a) return a.k as x order by x", "match (a) return a order by a")
}

func TestP1103Example5(t *testing.T) {
	fails(t, api.ErrPlace, "match (a)-[e*1..3]->(b) return a", "create (a:x)-[:t]-(b:x)")
	fails(t, api.ErrName, "create (a)", "create (a:x)-[]->(b:x)")
	fails(t, api.ErrTwice, "match (a) create (a:x)")
	fine(t, "match (a) create (a)-[:t]->(:y)")
}

func TestP1103Example6(t *testing.T) {
	fine(t, "match (a) with a.k as v return v.x")
	fails(t, api.ErrMix, "match (a) with a.k as v set v.x = 1")
	checks(t, "match (a) with a return a.k", api.Scope{Vars: []api.Bound{nodeVar("a")}, Cols: []string{"a.k"}})
	fails(t, api.ErrUnbound, "match (a) with a as b return a")
}

func TestP1103Example7(t *testing.T) {
	fails(t, api.ErrKind, "match (a) where 1 return a", "return 1 + 'a'")
	fine(t, "return null + 'a'", "match (a) return re(a)")
	fails(t, api.ErrMix, "match (e) return type(e)")
	kinds(t, "re(n)", 1)
}

func TestP1102Example8(t *testing.T) {
	kinds(t, "1 + 2i", 8)
	kinds(t, "n.k < 1", 3)
	kinds(t, "v", 127)
	kinds(t, "case when n.k then 1 else 'x' end", 20)
	kinds(t, "coalesce(n.k, 1)", 30)
	kinds(t, "1 in [2, null]", 3)
	kinds(t, "-'a'", 0)
	kinds(t, "count(*)", 4)
	kinds(t, "max(n.k)", 31)
}

func TestP1103Example9(t *testing.T) {
	fails(t, api.ErrTwice, "match (a {k: 1, k: 2}) return 1")
	fine(t, "match (a)-[e]->(b)<-[e]-(c) return 1")
}

func TestP1104Example10(t *testing.T) {
	number, err := check.Program([]api.Query{parsed(t, "return 1"), parsed(t, "return x")})
	told(t, "the second query", err, api.ErrUnbound)
	same(t, "the second query", number, 1)
}
