package machine_test

import (
	"slices"
	"testing"

	"trellis/api"
	"trellis/machine"
)

// TestP1305Items: row by row, item by item.
func TestP1305Items(t *testing.T) {
	asks(t, bush(), "match (a:y)-[e]->(b) return e.w, a.k, 1 as one, label(b)", "0 1+0i 1 'y'; 'far' 1 1 'x'",
		"Nodes y; Node 4; Out 4; Edge 7; Node 5; Node 5; Out 5; Edge 8; Node 1; Edge 7; Node 4; Node 5; Edge 8; Node 5; Node 1")
	gives(t, bush(), "return 1 + 1, 'x' as s", "2 'x'")
	asks(t, bush(), "match (a) return 1 / 0, a.k", "error 12", "Nodes; Node 1; Node 2; Node 4; Node 5; Node 9")
	gives(t, bush(), "match (a:nix) return 1 / 0", "")
	gives(t, bush(), "create (a:new)", " | made 1")
}

// TestP1302Cols: the names of the columns; a table has the same.
func TestP1302Cols(t *testing.T) {
	for text, want := range map[string][]string{
		"match (a:x) return a, a.k, a.k + (1) as k, count(*)": {"a", "a.k", "k", "count(*)"},
		"create (a:x)": nil,
		"match (a:x) with a.k as one return one, (one*2)+1":            {"one", "one * 2 + 1"},
		"match (a) with a as b return b":                               {"b"},
		"return case when true then 1 end, coalesce(1,2), 'x' in['x']": {"case when true then 1 else null end", "coalesce(1, 2)", "'x' in ['x']"},
	} {
		c := compiled(t, text)
		same(t, text, c.Cols(), want)
		_, s := over(t, bush())
		got, code := c.Run(s, api.MaxFuel)
		if code != api.OK || !slices.Equal(got.Cols, want) {
			t.Errorf("%s: %d, %q", text, code, got.Cols)
		}
	}
	var none *machine.Code
	same(t, "no code", none.Cols(), []string{})
}

// TestP1302Refused: what Check finds fault with has no code, whatever the fault is.
func TestP1302Refused(t *testing.T) {
	refused(t, "match (a) return b", "match (a)-[a]->() return 1", "return 1 + 'a'", "match (a) where count(*) = 1 return a", "match (a) return a.k, a.k", "create (a)", "match (a) return a.k as x order by y", "match (a) with a.k as v set v.x = 1", "match (a {k: 1, k: 2}) return 1")
	for _, q := range []api.Query{{}, {Parts: []api.Part{{}}}, {Parts: make([]api.Part, 5)}} {
		if c, code := machine.Compile(q); c != nil || code != api.ErrCode {
			t.Errorf("Compile(%+v) = %v, %d", q, c, code)
		}
	}
}

// TestP1305Groups: rows of the same keys go together, in the order of the first ones.
func TestP1305Groups(t *testing.T) {
	gives(t, bush(), "match (a) return label(a), count(*), sum(1)", "'x' 2 2; 'y' 2 2; 'z' 1 1")
	gives(t, bush(), "match (a) return a.k, count(*)", "1 2; 2 1; 1+0i 1; 'a' 1")
	gives(t, bush(), "match (a) return a.s, count(*)", "null 4; 'one' 1")
	gives(t, bush(), "match (a) return count(*), a.k is null, label(a)", "2 false 'x'; 2 false 'y'; 1 false 'z'")
	gives(t, bush(), "match (a)-[e]->(b) return a, b, count(e), min(e.w)", "(1) (2) 2 1; (2) (1) 1 null; (2) (2) 1 7; (2) (4) 1 2; (4) (5) 1 0; (5) (1) 1 'far'")
	gives(t, bush(), "match (a), (b) return a = b, count(*)", "true 5; false 20")
	gives(t, bush(), "match (a:nix) return 1 as one, count(*)", "")
	gives(t, bush(), "match (a:nix) return count(*), count(a), sum(a.k), min(a.k), max(a.k), avg(a.k), 1 + count(*)", "0 0 0 null null null 1")
	gives(t, bush(), "match (a:nix) return 7 + count(*) * 2 as n", "7")
	twelve := "match (a) return 1 as a1, 2 as a2, 3 as a3, 4 as a4, 5 as a5, 6 as a6, 7 as a7, 8 as a8, 9 as a9, 10 as a10, label(a) as l, count(*)"
	gives(t, bush(), twelve, "1 2 3 4 5 6 7 8 9 10 'x' 2; 1 2 3 4 5 6 7 8 9 10 'y' 2; 1 2 3 4 5 6 7 8 9 10 'z' 1")
}

// TestP1305Aggregates: each of them, over values of several kinds.
func TestP1305Aggregates(t *testing.T) {
	gives(t, bush(), "match (a) return count(*), count(a.k), count(a.s), count(null)", "5 5 1 0")
	gives(t, bush(), "match (a:x) return sum(a.k), min(a.k), max(a.k), avg(a.k)", "3 1 2 1")
	gives(t, bush(), "match (a:y) return sum(a.k), min(a.k), max(a.k), avg(a.k)", "2+0i 1 1+0i 1+0i")
	gives(t, bush(), "match (a) return min(a.k), max(a.k), min(a), max(label(a))", "'a' 2 (1) 'z'")
	gives(t, bush(), "match (a) return count(distinct a.k), count(distinct label(a)), count(distinct a.s)", "4 3 1")
	gives(t, bush(), "match (a {k: 1})-[e]-(b) return sum(1), sum(distinct 1), count(distinct b), count(b)", "6 1 4 6")
	gives(t, bush(), "match (a:x) return sum(a.k) * 10 + count(*) as n, max(a.k) > min(a.k) as m", "32 true")
	gives(t, bush(), "match (a:x) return case when count(*) > 1 then max(a.k) else min(a.k) end as n, max(a.k) in [1, 2], coalesce(max(a.nix), 0)", "2 true 0")
	fails(t, bush(), api.ErrKind, "match (a) return sum(a.k)", "match (a) return avg(a.k)", "match (a:x) return coalesce(1, sum(a.s))", "match (a:x) return case when true then 1 else sum(a.s) end", "match (a:x) return sum(a.s) is null")
	fails(t, bush(), api.ErrRange, "match (a:x) return sum(9223372036854775807)", "match (a:x) return sum(a.k * 9000000000000000000)")
	fails(t, bush(), api.ErrInexact, "match (a:x) return avg(a.k + 0i)")
	fails(t, bush(), api.ErrZero, "match (a:x) return count(*) / (max(a.k) - 2)")
}

// TestP1305GroupAsked: of each row the keys first, then what the aggregates take; behind all rows the items' own expressions.
func TestP1305GroupAsked(t *testing.T) {
	asks(t, bush(), "match (a:x {k: 1})-[e]->(b) return sum(e.w), label(b), max(a.k)", "4 'x' 1",
		"Find x k 1; Node 1; Out 1; Edge 1; Node 2; Edge 2; Node 2; Node 2; Edge 1; Node 1; Node 2; Edge 2; Node 1")
	asks(t, bush(), "match (a:x) return label(max(a)), count(*), deg(min(a))", "'x' 2 2", "Nodes x; Node 1; Node 2; Node 2; Out 1")
	asks(t, bush(), "match (a:y)-[e]->(b) return label(a), type(max(e)), label(min(b))", "'y' 'u' 'x'",
		"Nodes y; Node 4; Out 4; Edge 7; Node 5; Node 5; Out 5; Edge 8; Node 1; Node 4; Node 5; Edge 8; Node 1")
	asks(t, bush(), "match (a:y)-[e]->(b) return a, type(max(e)), label(min(b))", "(4) 't' 'y'; (5) 'u' 'x'",
		"Nodes y; Node 4; Out 4; Edge 7; Node 5; Node 5; Out 5; Edge 8; Node 1; Edge 7; Node 5; Edge 8; Node 1")
	asks(t, bush(), "match (a:x) return case when false then sum(a.k) else 1 end", "1", "Nodes x; Node 1; Node 2; Node 1; Node 2")
	asks(t, bush(), "match (a:x) return max(a.b) + count(label(a)), label(max(a))", "error 10", "Nodes x; Node 1; Node 2; Node 1; Node 1; Node 2; Node 2")
	asks(t, bush(), "match (a:x) return label(max(a)), sum(a.s)", "error 10", "Nodes x; Node 1; Node 2; Node 1; Node 2; Node 2")
}

// TestP1305Once: rows of columns that are the same in all fields.
func TestP1305Once(t *testing.T) {
	gives(t, bush(), "match (a) return distinct label(a)", "'x'; 'y'; 'z'")
	gives(t, bush(), "match (a) return distinct a.k", "1; 2; 1+0i; 'a'")
	gives(t, bush(), "match (a) return distinct a.s, a.b", "null true; 'one' null; null null")
	gives(t, bush(), "match (a), (b) return distinct label(a) = label(b), 1 as one", "true 1; false 1")
	gives(t, bush(), "match (a) return distinct count(*), max(1)", "5 1")
	gives(t, bush(), "match (a)-[e]->(b) return distinct count(*), label(a) as l, a order by a", "2 'x' (1); 3 'x' (2); 1 'y' (4); 1 'y' (5)")
	gives(t, bush(), "match (a)-[e]->(b) with a, count(e) as n return distinct n", "2; 3; 1")
	gives(t, bush(), "match (a) with distinct label(a) as l match (b) return l, count(b)", "'x' 5; 'y' 5; 'z' 5")
}

// TestP1305Order: by value.Compare, both ways; rows that are as good as one another keep their order.
func TestP1305Order(t *testing.T) {
	gives(t, bush(), "match (a) return a.k order by 1", "'a'; 1; 1; 1+0i; 2")
	gives(t, bush(), "match (a) return a, a.k as k order by k", "(9) 'a'; (1) 1; (5) 1; (4) 1+0i; (2) 2")
	gives(t, bush(), "match (a) return a, a.k as k order by k desc", "(2) 2; (4) 1+0i; (1) 1; (5) 1; (9) 'a'")
	gives(t, bush(), "match (a) return a, a.k order by 2 desc, 1 desc", "(2) 2; (4) 1+0i; (5) 1; (1) 1; (9) 'a'")
	gives(t, bush(), "match (a) return label(a) as l, a order by l desc, a", "'z' (9); 'y' (4); 'y' (5); 'x' (1); 'x' (2)")
	gives(t, bush(), "match (a) return label(a) as l, a order by a desc, l", "'z' (9); 'y' (5); 'y' (4); 'x' (2); 'x' (1)")
	gives(t, bush(), "match (a) return a order by a desc", "(9); (5); (4); (2); (1)")
	gives(t, bush(), "match (a) return a.s as s, a order by s, 2 desc", "'one' (2); null (9); null (5); null (4); null (1)")
	gives(t, bush(), "match (a) return distinct label(a) as l order by l desc limit 2", "'z'; 'y'")
	gives(t, bush(), "match (a) return label(a) as l, count(*) as n order by n, l desc", "'z' 1; 'y' 2; 'x' 2")
	gives(t, bush(), "match (a) with a order by a desc return a.k", "'a'; 1; 1+0i; 2; 1")
}

// TestP1305Cut: skip, then limit; none, all, more than there are.
func TestP1305Cut(t *testing.T) {
	for cut, want := range map[string]string{
		"": "(1); (2); (4); (5); (9)", "skip 0": "(1); (2); (4); (5); (9)", "skip 2": "(4); (5); (9)", "skip 4": "(9)", "skip 5": "", "skip 6": "", "skip 9223372036854775807": "",
		"limit 0": "", "limit 2": "(1); (2)", "limit 5": "(1); (2); (4); (5); (9)", "limit 9223372036854775807": "(1); (2); (4); (5); (9)",
		"skip 1 limit 2": "(2); (4)", "skip 4 limit 2": "(9)", "skip 9223372036854775807 limit 9223372036854775807": "", "order by a desc skip 1 limit 2": "(5); (4)",
	} {
		gives(t, bush(), "match (a) return a "+cut, want)
		gives(t, bush(), "match (a) with a "+cut+" return a", want)
	}
	asks(t, bush(), "match (a:x) return a.k limit 0", "", "Nodes x; Node 1; Node 2; Node 1; Node 2")
	fails(t, bush(), api.ErrKind, "match (a) return a.k + 1 limit 1")
}

// TestP1305With: a part hands its columns on, those alone that its condition leaves, behind order and cut.
func TestP1305With(t *testing.T) {
	asks(t, bush(), "match (a) with a order by a limit 2 where a.k = 2 return a", "(2)", "Nodes; Node 1; Node 2; Node 4; Node 5; Node 9; Node 1; Node 2")
	gives(t, bush(), "match (a) with a as b, a.k as c match (b)-[e:u]->(d) return b, c, e, d", "(2) 2 [3] (1); (2) 2 [4] (2); (5) 1 [8] (1)")
	gives(t, bush(), "match (a)-[e]->(b) with e as f, b as a match (a)-[e]->(c) where e <> f return f, a, e, c", "[1] (2) [3] (1); [1] (2) [4] (2); [1] (2) [6] (4); [2] (2) [3] (1); [2] (2) [4] (2); [2] (2) [6] (4); [3] (1) [1] (2); [3] (1) [2] (2); [4] (2) [3] (1); [4] (2) [6] (4); [6] (4) [7] (5); [7] (5) [8] (1); [8] (1) [1] (2); [8] (1) [2] (2)")
	gives(t, bush(), "match (a) with label(a) as l, count(*) as n where n > 1 return l, n", "'x' 2; 'y' 2")
	gives(t, bush(), "match (a) with a.k as v where v return v limit 0", "error 10")
	gives(t, bush(), "match (a) with a.b as v where v return v", "true")
	gives(t, bush(), "match (a) with count(*) as n with n + 1 as m with m * 2 as n return n", "12")
	gives(t, bush(), "with 1 as one match (a:z) return one, a", "1 (9)")
	gives(t, bush(), "match (a:x) with 1 as one match (b:x) return b", "(1); (2); (1); (2)")
	gives(t, bush(), "match (a) with a skip 9 return count(*)", "0")
	gives(t, bush(), "match (a:x) with a create (b:new {k: a.k}) with b where b.k = 2 set b.k = 3 return b, b.k", "(-2) 3 | made 2 | set 1")
	gives(t, bush(), "match (a) with a.k as v return v.x", "error 10")
	gives(t, bush(), "match (a:x) optional match (a)-[e:nix]->(b) with e, b where b is null return e, b", "null null; null null")
	gives(t, bush(), "match (a:x) optional match (a)-[e:nix]->(b) with e as f, b as c match (c)-[f]->(d) return d", "")
	gives(t, bush(), "match (a:x)-[e]->(b) with b as v, e as w with v as p, w as q return p, q limit 1", "(2) [1]")
	gives(t, bush(), "match (a:z) with a.k as k, a merge (b:new {k: k}) return a, b", "(9) (-1) | made 1")
}
