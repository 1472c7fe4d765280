package syntax_test

import (
	"math"
	"slices"
	"strings"
	"testing"

	"trellis/api"
	"trellis/syntax"
)

// forms: one expression of each form, with a and b as its kids, and the rank that the chapter gives it.
func forms() []struct {
	tree api.Expr
	text string
	rank int
} {
	a, b := name("a"), name("b")
	type row = struct {
		tree api.Expr
		text string
		rank int
	}
	return []row{
		{bin(api.BOr, a, b), "a or b", 1}, {bin(api.BXor, a, b), "a xor b", 2}, {bin(api.BAnd, a, b), "a and b", 3}, {un(api.UNot, a), "not a", 4},
		{bin(api.BEq, a, b), "a = b", 5}, {bin(api.BNe, a, b), "a <> b", 5}, {bin(api.BLt, a, b), "a < b", 5}, {bin(api.BLe, a, b), "a <= b", 5}, {bin(api.BGt, a, b), "a > b", 5}, {bin(api.BGe, a, b), "a >= b", 5}, {bin(api.BStar, a, b), "a starts with b", 5}, {bin(api.BEnds, a, b), "a ends with b", 5}, {bin(api.BHas, a, b), "a contains b", 5}, {isNull(1, a), "a is null", 5}, {isNull(2, a), "a is not null", 5}, {in(a, b), "a in [b]", 5}, {in(a), "a in []", 5},
		{bin(api.BAdd, a, b), "a + b", 6}, {bin(api.BSub, a, b), "a - b", 6}, {bin(api.BMul, a, b), "a * b", 7}, {bin(api.BDiv, a, b), "a / b", 7}, {bin(api.BMod, a, b), "a % b", 7},
		{neg(a), "-a", 8}, {num(-5), "-5", 8}, {num(math.MinInt64), "-9223372036854775808", 8}, {imag(-5), "-5i", 8},
		{num(5), "5", 9}, {num(0), "0", 9}, {imag(5), "5i", 9}, {imag(0), "0i", 9}, {str("it's"), `'it\'s'`, 9}, {str("-"), "'-'", 9}, {null(), "null", 9}, {truth(true), "true", 9}, {truth(false), "false", 9}, {a, "a", 9}, {prop("a", "k"), "a.k", 9},
		{call(api.FRe, a), "re(a)", 9}, {call(api.FCpx, a, b), "cpx(a, b)", 9}, {named(call(api.FDeg, a), "t", ""), "deg(a, t)", 9}, {named(call(api.FDist, a, b), "t", "w"), "dist(a, b, t, w)", 9}, {agg(api.GCount, false), "count(*)", 9}, {agg(api.GCount, true, a), "count(distinct a)", 9}, {cases(a, b, null()), "case when a then b else null end", 9},
	}
}

// bracketed: the text in brackets, if the rank is less than needed.
func bracketed(text string, rank, needed int) string {
	if rank < needed {
		return "(" + text + ")"
	}
	return text
}

// TestP1004Brackets: each form as the kid of each form has brackets just where its rank says, and just where the grammar needs them: without them it is another tree, or none.
func TestP1004Brackets(t *testing.T) {
	x := name("x")
	for _, kid := range forms() {
		tells(t, kid.tree, kid.text)
		type place struct {
			tree          api.Expr
			ahead, behind string
			needed        int
		}
		var places []place
		for _, o := range forms() {
			if o.tree.Op != api.EBin {
				continue
			}
			left := o.rank
			if left == 5 {
				left = 6
			}
			sign := strings.TrimSuffix(strings.TrimPrefix(o.text, "a"), "b")
			places = append(places, place{bin(o.tree.Sub, kid.tree, x), "", sign + "x", left}, place{bin(o.tree.Sub, x, kid.tree), "x" + sign, "", o.rank + 1})
		}
		places = append(places, place{un(api.UNot, kid.tree), "not ", "", 4}, place{isNull(1, kid.tree), "", " is null", 6}, place{isNull(2, kid.tree), "", " is not null", 6}, place{in(kid.tree, x), "", " in [x]", 6})
		minus := 8
		if kid.tree.Op == api.ELit && kid.rank == 9 && (kid.tree.Val.Kind == api.KInt || kid.tree.Val.Kind == api.KCpx) {
			minus = 10
		}
		places = append(places, place{neg(kid.tree), "-", "", minus})
		for _, p := range places {
			tells(t, p.tree, p.ahead+bracketed(kid.text, kid.rank, p.needed)+p.behind)
			got, code, _ := syntax.ParseExpr(p.ahead + kid.text + p.behind)
			if needed := code != api.OK || !alike(got, p.tree); needed != (kid.rank < p.needed) {
				t.Errorf("%s%s%s: brackets are needed: %v", p.ahead, kid.text, p.behind, needed)
			}
		}
	}
}

// TestP1004NoBrackets: none around what stands in the brackets of a call, a list, or between the words of a case.
func TestP1004NoBrackets(t *testing.T) {
	for _, kid := range forms() {
		e, s := kid.tree, kid.text
		tells(t, call(api.FRe, e), "re("+s+")")
		tells(t, call(api.FCpx, e, e), "cpx("+s+", "+s+")")
		tells(t, call(api.FCoalesce, e, e, e), "coalesce("+s+", "+s+", "+s+")")
		tells(t, named(call(api.FHops, e, e), "t", ""), "hops("+s+", "+s+", t)")
		tells(t, agg(api.GSum, false, e), "sum("+s+")")
		tells(t, agg(api.GMax, true, e), "max(distinct "+s+")")
		tells(t, in(name("x"), e, e), "x in ["+s+", "+s+"]")
		tells(t, cases(e, e, e), "case when "+s+" then "+s+" else "+s+" end")
		tells(t, cases(e, e, e, e, e), "case when "+s+" then "+s+" when "+s+" then "+s+" else "+s+" end")
		prints(t, query(gives(part(nil, api.Action{Kind: api.ASet, Var: "a", Key: "k", Val: []api.Expr{e}}), item(e, ""), item(e, "n"))), "set a.k = "+s+" return "+s+", "+s+" as n")
		prints(t, query(gives(part(matches(match(path(node("", "", pair("k", e)))))), item(e, ""))), "match ({k: "+s+"}) return "+s)
	}
}

func TestP1004Calls(t *testing.T) {
	a, b := name("a"), name("b")
	for want, e := range map[string]api.Expr{
		"re(a)": call(api.FRe, a), "im(a)": call(api.FIm, a), "conj(a)": call(api.FConj, a), "norm(a)": call(api.FNorm, a), "len(a)": call(api.FLen, a), "abs(a)": call(api.FAbs, a), "cpx(a, b)": call(api.FCpx, a, b), "label(a)": call(api.FLabel, a), "type(a)": call(api.FType, a), "deg(a)": call(api.FDeg, a), "deg(a, t)": named(call(api.FDeg, a), "t", ""), "dist(a, b, t, w)": named(call(api.FDist, a, b), "t", "w"), "hops(a, b)": call(api.FHops, a, b), "hops(a, b, t)": named(call(api.FHops, a, b), "t", ""), "coalesce(a)": call(api.FCoalesce, a), "coalesce(a, b)": call(api.FCoalesce, a, b),
		"count(*)": agg(api.GCount, false), "count(a)": agg(api.GCount, false, a), "sum(a)": agg(api.GSum, false, a), "min(a)": agg(api.GMin, false, a), "max(a)": agg(api.GMax, false, a), "avg(a)": agg(api.GAvg, false, a), "avg(distinct a)": agg(api.GAvg, true, a),
	} {
		tells(t, e, want)
	}
}

func TestP1004Queries(t *testing.T) {
	for text, want := range map[string]string{
		"optional   match(a),(b)where a=b return 1": "optional match (a), (b) where a = b return 1",
		"match (a) match (b) where 1 abort":         "match (a) match (b) where 1 abort",
		"create (a), (b)-->(c) create (d)":          "create (a) create (b)-[]->(c) create (d)",
		"merge (a:x {k: 1}), (b)":                   "merge (a:x {k: 1}) merge (b)",
		"set a.k = 1, b.j = not a or b":             "set a.k = 1 set b.j = not a or b",
		"remove a.k, b.j":                           "remove a.k remove b.j",
		"detach delete a, b delete c, d":            "detach delete a detach delete b delete c delete d",
		"abort abort":                               "abort abort",
		"with distinct a, b.k as c order by c, 2 desc, a asc skip 01 limit 002 where a and b return distinct a": "with distinct a, b.k as c order by c, 2 desc, a skip 1 limit 2 where a and b return distinct a",
		"with a abort with a return a skip 0":                                                            "with a abort with a return a skip 0",
		"return a limit 9223372036854775807":                                                             "return a limit 9223372036854775807",
		"return (a) as b, ((1))":                                                                         "return a as b, 1",
		"match (), (a), (:x), (a:x), ({k: 1}) return 1 ":                                                 "",
		"match (), (a), (:x), (a:x) return 1":                                                            "match (), (a), (:x), (a:x) return 1",
		"match ({k: 1, j: 2}), (a {k: 1}), (:x {k: 1}), (a:x {k: 1}) return 1":                           "match ({k: 1, j: 2}), (a {k: 1}), (:x {k: 1}), (a:x {k: 1}) return 1",
		"match ()--()-->()<--()-[a]-()-[:t]->()<-[a:t]-() return 1":                                      "match ()-[]-()-[]->()<-[]-()-[a]-()-[:t]->()<-[a:t]-() return 1",
		"match ()-[*]-()-[a*2]->()<-[:t*..2]-()-[a:t*2..]-()-[*2..3]-()-[*..]-() return 1":               "match ()-[*1..5]-()-[a*2..2]->()<-[:t*1..2]-()-[a:t*2..5]-()-[*2..3]-()-[*1..5]-() return 1",
		"match ()-[{k: 1}]-()-[a {k: 1}]->()<-[:t {k: 1}]-()-[*{k: 1}]-()-[a:t*1 {k: 1, j: 2}]-() abort": "match ()-[{k: 1}]-()-[a {k: 1}]->()<-[:t {k: 1}]-()-[*1..5 {k: 1}]-()-[a:t*1..1 {k: 1, j: 2}]-() abort",
	} {
		if want == "" {
			fails(t, text, api.ErrMany, strings.Index(text, "({"))
			continue
		}
		again(t, text, want)
		again(t, want, want)
	}
	qs, _, _ := syntax.Program("abort;return 1;create();")
	text, code := syntax.PrintProgram(qs)
	same(t, "PrintProgram", []any{text, code}, []any{"abort; return 1; create ()", api.OK})
}

// TestP1004Form: expressions that no text has.
func TestP1004Form(t *testing.T) {
	a, b := name("a"), name("b")
	with := func(e api.Expr, change func(e *api.Expr)) api.Expr { change(&e); return e }
	for _, v := range []api.Val{{Kind: api.KNode, A: 1}, {Kind: api.KEdge, A: 1}, {Kind: api.KCpx, A: 1}, {Kind: api.KCpx, A: -1, B: 1}, {Kind: api.KCpx, B: api.MaxPart + 1}, {Kind: api.KCpx, B: -api.MaxPart - 1}, {Kind: api.KBool, A: 2}, {Kind: api.KInt, B: 1}, {Kind: api.KInt, S: "a"}, {Kind: api.KNull, A: 1}, {Kind: api.KStr, S: "\xff"}, {Kind: api.KStr, S: strings.Repeat("a", 33)}, {Kind: 7}, {Kind: -1}} {
		untold(t, val(v), api.ErrForm)
		untold(t, bin(api.BAdd, a, val(v)), api.ErrForm)
	}
	for _, n := range append([]string{"", "A", "1a", "a b", "abcdefghi", "é", "a.b"}, theWords...) {
		untold(t, name(n), api.ErrForm)
		untold(t, prop(n, "k"), api.ErrForm)
		untold(t, prop("a", n), api.ErrForm)
		untold(t, named(call(api.FDist, a, b), n, "w"), api.ErrForm)
		untold(t, named(call(api.FDist, a, b), "t", n), api.ErrForm)
		if n != "" {
			untold(t, named(call(api.FDeg, a), n, ""), api.ErrForm)
			untold(t, named(call(api.FHops, a, b), n, ""), api.ErrForm)
		}
	}
	for _, e := range []api.Expr{
		{}, {Op: -1}, {Op: 11}, un(0, a), un(3, a), un(-1, a), bin(0, a, b), bin(19, a, b), bin(-1, a, b), bin(api.BCpx, a, b), isNull(0, a), isNull(3, a), call(0, a), call(14, a), call(-1, a), agg(0, false, a), agg(6, false, a), agg(-1, false, a),
		cases(), cases(a), cases(a, a), cases(a, a, a, a), cases(a, a, a, a, a, a, a, a, a, a), cases(a, a, a, a, a, a, a, a, a, a, a), in(), in(a, a, a, a, a, a, a, a, a, a), call(api.FCoalesce), call(api.FCoalesce, a, a, a, a, a, a, a, a, a, a),
		call(api.FRe), call(api.FRe, a, b), call(api.FCpx, a), call(api.FCpx, a, a, a), call(api.FDeg), call(api.FDeg, a, b), call(api.FHops, a), call(api.FDist, a, b), named(call(api.FDist, a, b), "t", ""), named(call(api.FDist, a), "t", "w"), named(call(api.FDeg, a), "", "w"), named(call(api.FDeg, a), "t", "w"), named(call(api.FHops, a, b), "t", "w"), named(call(api.FRe, a), "t", ""), named(call(api.FCoalesce, a), "", "w"),
		agg(api.GCount, true), agg(api.GSum, false), agg(api.GSum, true), agg(api.GCount, false, a, b), agg(api.GAvg, true, a, b),
	} {
		untold(t, e, api.ErrForm)
		untold(t, un(api.UNot, e), api.ErrForm)
	}
	for _, f := range forms() {
		for _, change := range []func(e *api.Expr){
			func(e *api.Expr) { e.Kids = slices.Concat(e.Kids, make([]api.Expr, 10)) },
			func(e *api.Expr) { e.Val.Kind = 9 },
			func(e *api.Expr) { e.Sub += 40 },
			func(e *api.Expr) { e.Sub -= 40 },
			func(e *api.Expr) { e.Name += "A" },
			func(e *api.Expr) { e.Key += "A" },
			func(e *api.Expr) { e.Kids = append([]api.Expr{{}}, e.Kids...) },
		} {
			untold(t, with(f.tree, change), api.ErrForm)
		}
		if f.tree.Op != api.EAgg {
			untold(t, with(f.tree, func(e *api.Expr) { e.Once = true }), api.ErrForm)
		}
		if f.tree.Op != api.ELit {
			untold(t, with(f.tree, func(e *api.Expr) { e.Val.Kind = api.KInt }), api.ErrForm)
			untold(t, with(f.tree, func(e *api.Expr) { e.Val.A = 1 }), api.ErrForm)
		}
	}
}

// TestP1004FormOfQueries: queries that no text has, each one field away from one that has.
func TestP1004FormOfQueries(t *testing.T) {
	text := "optional match (a:x {k: 1})-[r:t*2..3 {k: 1}]->(b)-[s]-(c) where a create (a)-->(b) merge (a:x {k: 1}) set a.k = 1 remove a.k detach delete a abort with distinct a, b.k as c order by 1 desc, a skip 1 limit 2 where a abort"
	fresh := func() *api.Query { q, _, _ := syntax.Parse(text); return &q }
	prints(t, *fresh(), strings.Replace(text, "-->", "-[]->", 1))
	first := func(q *api.Query) *api.Part { return &q.Parts[0] }
	last := func(q *api.Query) *api.Part { return &q.Parts[1] }
	from := func(q *api.Query) *api.NodePat { return &q.Parts[0].Match[0].Paths[0].From }
	hop := func(q *api.Query) *api.HopPat { return &q.Parts[0].Match[0].Paths[0].Hops[0] }
	plain := func(q *api.Query) *api.HopPat { return &q.Parts[0].Match[0].Paths[0].Hops[1] }
	act := func(q *api.Query, kind int) *api.Action { return &q.Parts[0].Actions[kind-1] }
	for i, spoil := range []func(q *api.Query){
		func(q *api.Query) { q.Parts = nil },
		func(q *api.Query) { q.Parts = append(q.Parts[:1:1], q.Parts[0], q.Parts[0], q.Parts[0], q.Parts[1]) },
		func(q *api.Query) { q.Parts = q.Parts[:1] },
		func(q *api.Query) { first(q).Gives = false },
		func(q *api.Query) { first(q).Items = nil },
		func(q *api.Query) { first(q).Items[1].As = "" },
		func(q *api.Query) { first(q).Items[1].As = "match" },
		func(q *api.Query) { first(q).Items[0].As = "A" },
		func(q *api.Query) { first(q).Items[0].Expr = api.Expr{} },
		func(q *api.Query) { first(q).Items = append(first(q).Items, make([]api.Item, 12)...) },
		func(q *api.Query) { first(q).Order[0].Col = 0 },
		func(q *api.Query) { first(q).Order[0].Col = 13 },
		func(q *api.Query) { first(q).Order[0].Col = -1 },
		func(q *api.Query) { first(q).Order[0].Name = "a" },
		func(q *api.Query) { first(q).Order[1].Col = 1 },
		func(q *api.Query) { first(q).Order[1].Name = "by" },
		func(q *api.Query) { first(q).Order = append(first(q).Order, make([]api.OrderKey, 11)...) },
		func(q *api.Query) { first(q).Skip = -2 },
		func(q *api.Query) { first(q).Limit = math.MinInt64 },
		func(q *api.Query) { first(q).Where = append(first(q).Where, name("a")) },
		func(q *api.Query) { first(q).Where[0] = api.Expr{} },
		func(q *api.Query) { last(q).Where = []api.Expr{name("a")} },
		func(q *api.Query) { last(q).Actions = nil },
		func(q *api.Query) { last(q).Once = true },
		func(q *api.Query) { last(q).Items = []api.Item{item(num(1), "")} },
		func(q *api.Query) { last(q).Order = []api.OrderKey{{Col: 1}} },
		func(q *api.Query) { last(q).Skip = 0 },
		func(q *api.Query) { last(q).Limit = 0 },
		func(q *api.Query) { last(q).Gives = true },
		func(q *api.Query) { first(q).Match[0].Paths = nil },
		func(q *api.Query) { first(q).Match = append(first(q).Match, api.Match{}) },
		func(q *api.Query) {
			p := first(q).Match[0].Paths[0]
			first(q).Match[0].Paths = []api.Path{p, p, p, p, p}
		},
		func(q *api.Query) { m := first(q).Match[0]; first(q).Match = []api.Match{m, m, m, m, m} },
		func(q *api.Query) { first(q).Match[0].Where = []api.Expr{name("a"), name("a")} },
		func(q *api.Query) { first(q).Match[0].Where = []api.Expr{{}} },
		func(q *api.Query) { from(q).Var = "match" },
		func(q *api.Query) { from(q).Label = "1" },
		func(q *api.Query) { from(q).Props[0].Key = "" },
		func(q *api.Query) { from(q).Props[0].Val = api.Expr{} },
		func(q *api.Query) { p := from(q).Props[0]; from(q).Props = []api.Pair{p, p, p, p, p, p, p, p, p} },
		func(q *api.Query) { hop(q).Var = "A" },
		func(q *api.Query) { hop(q).Type = "set" },
		func(q *api.Query) { hop(q).Dir = 0 },
		func(q *api.Query) { hop(q).Dir = 4 },
		func(q *api.Query) { hop(q).Min = 0 },
		func(q *api.Query) { hop(q).Min = 4 },
		func(q *api.Query) { hop(q).Max = 6 },
		func(q *api.Query) { hop(q).Star = false },
		func(q *api.Query) { hop(q).Props[0].Key = "A" },
		func(q *api.Query) { hop(q).To.Var = "A" },
		func(q *api.Query) { plain(q).Min = 0 },
		func(q *api.Query) { plain(q).Max = 2 },
		func(q *api.Query) { plain(q).Min, plain(q).Max = 0, 0 },
		func(q *api.Query) { plain(q).Min, plain(q).Max = 2, 2 },
		func(q *api.Query) {
			h := *hop(q)
			p := &first(q).Match[0].Paths[0]
			p.Hops = []api.HopPat{h, h, h, h, h, h, h}
		},
		func(q *api.Query) {
			first(q).Actions = append(first(q).Actions, first(q).Actions...)
			first(q).Actions = append(first(q).Actions, first(q).Actions...)
		},
		func(q *api.Query) { act(q, api.ACreate).Kind = 0 },
		func(q *api.Query) { act(q, api.ACreate).Kind = 7 },
		func(q *api.Query) { act(q, api.ACreate).Kind = api.AMerge },
		func(q *api.Query) { act(q, api.ACreate).Var = "a" },
		func(q *api.Query) { act(q, api.ACreate).Key = "a" },
		func(q *api.Query) { act(q, api.ACreate).Val = []api.Expr{num(1)} },
		func(q *api.Query) { act(q, api.ACreate).Detach = true },
		func(q *api.Query) { act(q, api.ACreate).Path.Hops[0].Dir = 0 },
		func(q *api.Query) { act(q, api.AMerge).Path.Hops = []api.HopPat{*plain(q)} },
		func(q *api.Query) { act(q, api.AMerge).Var = "a" },
		func(q *api.Query) { act(q, api.AMerge).Key = "a" },
		func(q *api.Query) { act(q, api.AMerge).Path.From.Label = "A" },
		func(q *api.Query) { act(q, api.ASet).Var = "" },
		func(q *api.Query) { act(q, api.ASet).Key = "" },
		func(q *api.Query) { act(q, api.ASet).Val = nil },
		func(q *api.Query) { act(q, api.ASet).Val = []api.Expr{num(1), num(1)} },
		func(q *api.Query) { act(q, api.ASet).Val[0] = api.Expr{} },
		func(q *api.Query) { act(q, api.ASet).Detach = true },
		func(q *api.Query) { act(q, api.ASet).Path.From.Var = "a" },
		func(q *api.Query) { act(q, api.ARemove).Var = "match" },
		func(q *api.Query) { act(q, api.ARemove).Key = "" },
		func(q *api.Query) { act(q, api.ARemove).Val = []api.Expr{num(1)} },
		func(q *api.Query) { act(q, api.ARemove).Detach = true },
		func(q *api.Query) { act(q, api.ARemove).Path.From.Label = "a" },
		func(q *api.Query) { act(q, api.ADelete).Var = "" },
		func(q *api.Query) { act(q, api.ADelete).Key = "a" },
		func(q *api.Query) { act(q, api.ADelete).Val = []api.Expr{num(1)} },
		func(q *api.Query) { act(q, api.ADelete).Path.Hops = []api.HopPat{*plain(q)} },
		func(q *api.Query) { act(q, api.AAbort).Var = "a" },
		func(q *api.Query) { act(q, api.AAbort).Key = "a" },
		func(q *api.Query) { act(q, api.AAbort).Val = []api.Expr{num(1)} },
		func(q *api.Query) { act(q, api.AAbort).Detach = true },
		func(q *api.Query) { act(q, api.AAbort).Path.From.Props = []api.Pair{pair("k", num(1))} },
	} {
		q := fresh()
		spoil(q)
		text, code := syntax.Print(*q)
		same(t, "spoilt query "+string(rune('0'+i/10))+string(rune('0'+i%10)), []any{text, code}, []any{"", api.ErrForm})
		text, code = syntax.PrintProgram([]api.Query{query(part(nil, abort())), *q})
		same(t, "spoilt program", []any{text, code}, []any{"", api.ErrForm})
	}
}

// TestP1004Limits: each list may be as long as its limit, and no longer.
func TestP1004Limits(t *testing.T) {
	a := name("a")
	edge := hop("", "", api.DOut, node("", ""))
	with := gives(part(nil), item(a, ""))
	last := part(nil, abort())
	props := func(n int) []api.Pair { return slices.Repeat([]api.Pair{pair("k", num(1))}, n) }
	for what, c := range map[string]struct {
		most int
		tree func(n int) api.Query
	}{
		"parts": {api.MaxParts, func(n int) api.Query { return query(append(slices.Repeat([]api.Part{with}, n-1), last)...) }},
		"matches": {api.MaxMatch, func(n int) api.Query {
			return query(part(slices.Repeat(matches(match(path(node("", "")))), n), abort()))
		}},
		"paths": {api.MaxPaths, func(n int) api.Query {
			return query(part(matches(match(slices.Repeat([]api.Path{{}}, n)...)), abort()))
		}},
		"hops": {api.MaxHops, func(n int) api.Query {
			return query(part(matches(match(path(node("", ""), slices.Repeat([]api.HopPat{edge}, n)...))), abort()))
		}},
		"made hops": {api.MaxHops, func(n int) api.Query {
			return query(part(nil, api.Action{Kind: api.ACreate, Path: path(node("", ""), slices.Repeat([]api.HopPat{edge}, n)...)}))
		}},
		"node props": {api.MaxProps, func(n int) api.Query { return query(part(matches(match(path(node("", "", props(n)...)))), abort())) }},
		"hop props": {api.MaxProps, func(n int) api.Query {
			return query(part(matches(match(path(node("", ""), hop("", "", api.DOut, node("", ""), props(n)...)))), abort()))
		}},
		"to props": {api.MaxProps, func(n int) api.Query {
			return query(part(matches(match(path(node("", ""), hop("", "", api.DOut, node("", "", props(n)...))))), abort()))
		}},
		"merge props": {api.MaxProps, func(n int) api.Query {
			return query(part(nil, api.Action{Kind: api.AMerge, Path: path(node("", "", props(n)...))}))
		}},
		"where": {1, func(n int) api.Query {
			return query(part(matches(api.Match{Paths: []api.Path{{}}, Where: slices.Repeat([]api.Expr{a}, n)}), abort()))
		}},
		"with where": {1, func(n int) api.Query { p := with; p.Where = slices.Repeat([]api.Expr{a}, n); return query(p, last) }},
		"set": {1, func(n int) api.Query {
			return query(part(nil, api.Action{Kind: api.ASet, Var: "a", Key: "k", Val: slices.Repeat([]api.Expr{a}, n)}))
		}},
		"actions": {api.MaxActions, func(n int) api.Query { return query(part(nil, slices.Repeat([]api.Action{abort()}, n)...)) }},
		"more actions": {api.MaxActions, func(n int) api.Query {
			return query(gives(part(nil, slices.Repeat([]api.Action{abort()}, n)...), item(a, "")), last)
		}},
		"items": {api.MaxItems, func(n int) api.Query { return query(gives(part(nil), slices.Repeat([]api.Item{item(a, "")}, n)...)) }},
		"with items": {api.MaxItems, func(n int) api.Query {
			return query(gives(part(nil), slices.Repeat([]api.Item{item(a, "")}, n)...), last)
		}},
		"keys": {api.MaxItems, func(n int) api.Query {
			p := with
			p.Order = slices.Repeat([]api.OrderKey{{Col: 1}}, n)
			return query(p)
		}},
		"with keys": {api.MaxItems, func(n int) api.Query {
			p := with
			p.Order = slices.Repeat([]api.OrderKey{{Name: "a"}}, n)
			return query(p, last)
		}},
		"column": {api.MaxItems, func(n int) api.Query { p := with; p.Order = []api.OrderKey{{Col: n}}; return query(p) }},
		"leap": {api.MaxLeap, func(n int) api.Query {
			return query(part(matches(match(path(node("", ""), star(edge, 1, n)))), abort()))
		}},
		"arguments": {api.MaxArgs, func(n int) api.Query {
			return query(gives(part(nil), item(call(api.FCoalesce, slices.Repeat([]api.Expr{a}, n)...), "")))
		}},
		"list": {api.MaxArgs, func(n int) api.Query {
			return query(gives(part(nil), item(in(slices.Repeat([]api.Expr{a}, n)...), "")))
		}},
	} {
		for n := 1; n <= c.most+3; n++ {
			_, code := syntax.Print(c.tree(n))
			if want := map[bool]api.Errno{true: api.OK, false: api.ErrForm}[n <= c.most]; code != want {
				t.Errorf("%d %s: %d, want %d", n, what, code, want)
			}
		}
	}
	for n := range 12 {
		want := api.ErrForm
		if n == 3 || n == 5 || n == 7 || n == 9 {
			want = api.OK
		}
		if _, code := syntax.PrintExpr(cases(slices.Repeat([]api.Expr{a}, n)...)); code != want {
			t.Errorf("a case of %d: %d, want %d", n, code, want)
		}
	}
}

// TestP1004Leaves: what has no kids has none, be they sound ones.
func TestP1004Leaves(t *testing.T) {
	for _, f := range forms() {
		if len(f.tree.Kids) > 0 || f.tree.Op == api.EAgg {
			continue
		}
		e := f.tree
		for range 3 {
			e.Kids = append(e.Kids, name("a"))
			untold(t, e, api.ErrForm)
		}
	}
}

func TestP1004Programs(t *testing.T) {
	one := query(part(nil, abort()))
	var qs []api.Query
	text, code := syntax.PrintProgram(qs)
	same(t, "no queries", []any{text, code}, []any{"", api.ErrForm})
	for n := 1; n <= 17; n++ {
		qs = append(qs, one)
		want, wantCode := row(n, "abort", "; "), api.OK
		if n > 16 {
			want, wantCode = "", api.ErrForm
		}
		text, code := syntax.PrintProgram(qs)
		same(t, "queries", []any{text, code}, []any{want, wantCode})
	}
}

// wide: a tree of just so many expressions: lists of up to eight, in one another.
func wide(count int) api.Expr {
	if count == 1 {
		return num(1)
	}
	e := in(num(1))
	count -= 2
	for len(e.Kids) < 9 && count > 0 {
		left := 9 - len(e.Kids)
		n := (count + left - 1) / left
		e.Kids = append(e.Kids, wide(n))
		count -= n
	}
	return e
}

func TestP1004Counts(t *testing.T) {
	same(t, "expressions", count(wide(4096)), 4096)
	untold(t, wide(4096), api.ErrLong)
	untold(t, wide(4097), api.ErrForm)
	whole := func(n int) api.Query { return query(gives(part(nil), item(wide(n), "a"))) }
	unprinted(t, whole(4096), api.ErrLong)
	unprinted(t, whole(4097), api.ErrForm)
	split := func(n int) api.Query {
		return query(gives(part(matches(match(path(node("", "", pair("k", wide(1000)))))), api.Action{Kind: api.ASet, Var: "a", Key: "k", Val: []api.Expr{wide(1000)}}), item(wide(n), "a")), part(nil, abort()))
	}
	unprinted(t, split(2096), api.ErrLong)
	unprinted(t, split(2097), api.ErrForm)
	for n, want := range map[int]api.Errno{2048: api.ErrLong, 2049: api.ErrForm} {
		text, code := syntax.PrintProgram([]api.Query{whole(2048), whole(n)})
		same(t, "two queries", []any{text, code}, []any{"", want})
	}
}

// count: the expressions of a tree.
func count(e api.Expr) int {
	n := 1
	for _, kid := range e.Kids {
		n += count(kid)
	}
	return n
}

// TestP1004Depth: 24 is the most, in each place where an expression stands.
func TestP1004Depth(t *testing.T) {
	deep := func(n int) api.Expr {
		e := name("a")
		for range n - 1 {
			e = un(api.UNot, e)
		}
		return e
	}
	tells(t, deep(24), strings.Repeat("not ", 23)+"a")
	untold(t, deep(25), api.ErrForm)
	prints(t, query(gives(part(nil), item(deep(24), ""))), "return "+strings.Repeat("not ", 23)+"a")
	for _, q := range []api.Query{
		query(gives(part(nil), item(deep(25), ""))), query(part(nil, api.Action{Kind: api.ASet, Var: "a", Key: "k", Val: []api.Expr{deep(25)}})), query(part(nil, api.Action{Kind: api.ACreate, Path: path(node("", "", pair("k", deep(25))))})), query(part(matches(api.Match{Paths: []api.Path{path(node("", ""))}, Where: []api.Expr{deep(25)}}), abort())),
	} {
		unprinted(t, q, api.ErrForm)
	}
}

// TestP1004Long: a text of 4096 bytes is told, one more byte is too long; a tree without the form is told as that, however long it would be.
func TestP1004Long(t *testing.T) {
	for n := 4090; n <= 4100; n++ {
		q, want := padded(n)
		if n <= 4096 {
			prints(t, q, want)
		} else {
			unprinted(t, q, api.ErrLong)
			q.Parts[0].Actions[0].Detach = true
			unprinted(t, q, api.ErrForm)
		}
	}
}

// padded: a query whose text has so many bytes, and that text.
func padded(length int) (api.Query, string) {
	q := query(gives(part(nil, slices.Repeat([]api.Action{abort()}, 16)...)))
	text := strings.Repeat("abort ", 16) + "return "
	for i := range 12 {
		e := call(api.FCoalesce)
		inner := []string{}
		for range 9 {
			e.Kids = append(e.Kids, str(strings.Repeat("z", 30)))
			inner = append(inner, "'"+strings.Repeat("z", 30)+"'")
		}
		if i > 0 {
			text += ", "
		}
		text += "coalesce(" + strings.Join(inner, ", ") + ")"
		q.Parts[0].Items = append(q.Parts[0].Items, item(e, ""))
	}
	for i := 0; len(text) < length; i++ {
		one := &q.Parts[0].Items[i/9].Expr.Kids[i%9]
		grown := min(32, 30+length-len(text))
		text = strings.Replace(text, "'"+strings.Repeat("z", 30)+"'", "'"+strings.Repeat("y", grown)+"'", 1)
		one.Val.S = strings.Repeat("y", grown)
	}
	return q, text
}
