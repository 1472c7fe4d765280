package syntax_test

import (
	"math"
	"testing"

	"trellis/api"
	"trellis/syntax"
)

func TestP1003Literals(t *testing.T) {
	for text, want := range map[string]api.Expr{
		"0": num(0), "7": num(7), "0007": num(7), "9223372036854775807": num(math.MaxInt64),
		"-0": num(0), "-7": num(-7), "- 7": num(-7), "-9223372036854775807": num(-math.MaxInt64), "-9223372036854775808": num(math.MinInt64), "-0009223372036854775808": num(math.MinInt64),
		"0i": imag(0), "3i": imag(3), "003i": imag(3), "33554432i": imag(api.MaxPart), "-3i": imag(-3), "- 3i": imag(-3), "-0i": imag(0), "-33554432i": imag(-api.MaxPart),
		"''": str(""), `'it\'s'`: str("it's"), "'null'": str("null"), `'\x00é'`: str("\x00é"),
		"null": null(), "true": truth(true), "false": truth(false),
		"a": name("a"), "a1b2c3d4": name("a1b2c3d4"), "a.k": prop("a", "k"), "a . k": prop("a", "k"), "(a).k": {},
	} {
		if want.Op == 0 {
			failsExpr(t, text, api.ErrSyntax, 3)
			continue
		}
		reads(t, text, want)
		reads(t, "("+text+")", want)
		reads(t, "(( "+text+" ))", want)
	}
}

func TestP1003Minus(t *testing.T) {
	a := name("a")
	for text, want := range map[string]api.Expr{
		"-a": neg(a), "--a": neg(neg(a)), "-(-a)": neg(neg(a)), "-a.k": neg(prop("a", "k")), "-'a'": neg(str("a")), "-null": neg(null()), "-re(1)": neg(call(api.FRe, num(1))),
		"--5": neg(num(-5)), "---5": neg(neg(num(-5))), "-(5)": neg(num(5)), "-((5))": neg(num(5)), "-(-5)": neg(num(-5)), "--5i": neg(imag(-5)), "-(5i)": neg(imag(5)), "-(0)": neg(num(0)),
		"2 - 5": bin(api.BSub, num(2), num(5)), "2 -5": bin(api.BSub, num(2), num(5)), "2-5": bin(api.BSub, num(2), num(5)), "2 - -5": bin(api.BSub, num(2), num(-5)), "2--5": bin(api.BSub, num(2), num(-5)), "2 - - 5": bin(api.BSub, num(2), num(-5)),
		"-2 - 5": bin(api.BSub, num(-2), num(5)), "-2 * 5": bin(api.BMul, num(-2), num(5)), "2 * -5": bin(api.BMul, num(2), num(-5)), "-a * b": bin(api.BMul, neg(a), name("b")), "-(a * 2)": neg(bin(api.BMul, a, num(2))),
		"--9223372036854775808": neg(num(math.MinInt64)), "0 - -9223372036854775808": bin(api.BSub, num(0), num(math.MinInt64)), "3 + 4i": bin(api.BAdd, num(3), imag(4)), "3 - 4i": bin(api.BSub, num(3), imag(4)),
		"a < -1": bin(api.BLt, a, num(-1)), "a<-1": bin(api.BLt, a, num(-1)),
	} {
		reads(t, text, want)
	}
	for text, at := range map[string]int{
		"9223372036854775808": 0, "1 - 9223372036854775808": 4, "1 -9223372036854775808": 3, "-(9223372036854775808)": 2, "1 + 9223372036854775808": 4, "a in [9223372036854775808]": 6, "re(9223372036854775808)": 3, "not 9223372036854775808": 4,
		"0009223372036854775808": 0, "-": 1, "--": 2, "- - - ": 6, "-+5": 1, "+5": 0, "5 -": 3,
	} {
		failsExpr(t, text, api.ErrSyntax, at)
	}
}

// TestP1003Operators: each operator, and which of two in a row go together first.
func TestP1003Operators(t *testing.T) {
	a, b, c := name("a"), name("b"), name("c")
	rows := []struct {
		text      string
		sub, rank int
	}{
		{"or", api.BOr, 1}, {"xor", api.BXor, 2}, {"and", api.BAnd, 3},
		{"=", api.BEq, 5}, {"<>", api.BNe, 5}, {"<", api.BLt, 5}, {"<=", api.BLe, 5}, {">", api.BGt, 5}, {">=", api.BGe, 5}, {"starts with", api.BStar, 5}, {"ends with", api.BEnds, 5}, {"contains", api.BHas, 5},
		{"+", api.BAdd, 6}, {"-", api.BSub, 6}, {"*", api.BMul, 7}, {"/", api.BDiv, 7}, {"%", api.BMod, 7},
	}
	for _, x := range rows {
		reads(t, "a "+x.text+" b", bin(x.sub, a, b))
		for _, y := range rows {
			text := "a " + x.text + " b " + y.text + " c"
			switch {
			case x.rank == 5 && y.rank == 5:
				failsExpr(t, text, api.ErrSyntax, len("a "+x.text+" b "))
			case x.rank >= y.rank:
				reads(t, text, bin(y.sub, bin(x.sub, a, b), c))
			default:
				reads(t, text, bin(x.sub, a, bin(y.sub, b, c)))
			}
			reads(t, "(a "+x.text+" b) "+y.text+" c", bin(y.sub, bin(x.sub, a, b), c))
			reads(t, "a "+x.text+" (b "+y.text+" c)", bin(x.sub, a, bin(y.sub, b, c)))
		}
		notLeft, notRight := "not a "+x.text+" b", "a "+x.text+" not b"
		if x.rank < 4 {
			reads(t, notLeft, bin(x.sub, un(api.UNot, a), b))
			reads(t, notRight, bin(x.sub, a, un(api.UNot, b)))
		} else {
			reads(t, notLeft, un(api.UNot, bin(x.sub, a, b)))
			failsExpr(t, notRight, api.ErrSyntax, len("a "+x.text+" "))
		}
	}
}

func TestP1003Tests(t *testing.T) {
	a, b := name("a"), name("b")
	for text, want := range map[string]api.Expr{
		"a is null": isNull(1, a), "a is not null": isNull(2, a), "not a is not null": un(api.UNot, isNull(2, a)), "a + b is null": isNull(1, bin(api.BAdd, a, b)), "(a is null) is null": isNull(1, isNull(1, a)), "a is null and b is null": bin(api.BAnd, isNull(1, a), isNull(1, b)),
		"a in []": in(a), "a in [b]": in(a, b), "a in [1, a or b, not a]": in(a, num(1), bin(api.BOr, a, b), un(api.UNot, a)), "a + b in [a in []]": in(bin(api.BAdd, a, b), in(a)), "-a in [-1]": in(neg(a), num(-1)),
		"not not a": un(api.UNot, un(api.UNot, a)), "not (a)": un(api.UNot, a),
	} {
		reads(t, text, want)
	}
	for text, at := range map[string]int{
		"a is null is null": 10, "a in [] in []": 8, "a = b is null": 6, "a is null = b": 10, "a in [] = b": 8, "a not in []": 2, "a is b": 5, "a is not b": 9, "a in b": 5, "a in [,]": 6, "a in [1,]": 8, "a in [1 2]": 8, "a in [": 6, "a starts b": 9, "a ends contains b": 7, "a contains with b": 11, "a with b": 2,
	} {
		failsExpr(t, text, api.ErrSyntax, at)
	}
}

func TestP1003Calls(t *testing.T) {
	a, b := name("a"), name("b")
	for text, sub := range map[string]int{"re": api.FRe, "im": api.FIm, "conj": api.FConj, "norm": api.FNorm, "len": api.FLen, "abs": api.FAbs, "label": api.FLabel, "type": api.FType} {
		reads(t, text+"(a)", call(sub, a))
		reads(t, text+" ( a or b )", call(sub, bin(api.BOr, a, b)))
		failsExpr(t, text+"(a, b)", api.ErrSyntax, len(text)+2)
		failsExpr(t, text+"()", api.ErrSyntax, len(text)+1)
		failsExpr(t, text+"(*)", api.ErrSyntax, len(text)+1)
		failsExpr(t, text+"(distinct a)", api.ErrSyntax, len(text)+1)
	}
	for text, want := range map[string]api.Expr{
		"cpx(a, b)": call(api.FCpx, a, b), "deg(a)": call(api.FDeg, a), "deg(a, t)": named(call(api.FDeg, a), "t", ""), "hops(a, b)": call(api.FHops, a, b), "hops(a, b, t)": named(call(api.FHops, a, b), "t", ""), "dist(a, b, t, w)": named(call(api.FDist, a, b), "t", "w"), "dist(a.k, 1, re, im)": named(call(api.FDist, prop("a", "k"), num(1)), "re", "im"),
		"coalesce(a)": call(api.FCoalesce, a), "coalesce(a, b, 1)": call(api.FCoalesce, a, b, num(1)), "coalesce(1,2,3,4,5,6,7,8,9)": call(api.FCoalesce, num(1), num(2), num(3), num(4), num(5), num(6), num(7), num(8), num(9)),
		"count(*)": agg(api.GCount, false), "count(a)": agg(api.GCount, false, a), "count(distinct a)": agg(api.GCount, true, a), "sum(a)": agg(api.GSum, false, a), "sum(distinct a)": agg(api.GSum, true, a), "min(a)": agg(api.GMin, false, a), "max(distinct a)": agg(api.GMax, true, a), "avg(a)": agg(api.GAvg, false, a), "re(im(conj(a)))": call(api.FRe, call(api.FIm, call(api.FConj, a))),
	} {
		reads(t, text, want)
	}
	for text, at := range map[string]int{
		"cpx(a)": 5, "cpx(a, b, c)": 8, "cpx()": 4, "deg()": 4, "deg(a, t, u)": 8, "deg(a, 1)": 7, "deg(a, match)": 7, "deg(a, t.k)": 8, "hops(a)": 6, "hops(a, b, 'c')": 11, "hops(a, b, t, u)": 12, "dist(a, b)": 9, "dist(a, b, t)": 12, "dist(a, b, t, w, x)": 15, "dist(a, b, 1, w)": 11, "dist(a, b, t, w + 1)": 16,
		"coalesce()": 9, "coalesce(a,)": 11, "sum(*)": 4, "min(*)": 4, "max(*)": 4, "avg(*)": 4, "count()": 6, "count(* + 1)": 8, "count(a, b)": 7, "count(distinct)": 14, "count(distinct *)": 15, "foo(1)": 3, "a.re(1)": 4, "b1(1)": 2, "exists(a)": 6,
	} {
		failsExpr(t, text, api.ErrSyntax, at)
	}
}

// TestP1003NoWords: the names of functions and aggregates name all that names name.
func TestP1003NoWords(t *testing.T) {
	for _, n := range []string{"re", "im", "conj", "norm", "len", "abs", "label", "type", "cpx", "coalesce", "deg", "hops", "dist", "count", "sum", "min", "max", "avg"} {
		reads(t, n, name(n))
		reads(t, n+"."+n, prop(n, n))
		reads(t, n+" + ("+n+")", bin(api.BAdd, name(n), name(n)))
		reads(t, "deg("+n+", "+n+")", named(call(api.FDeg, name(n)), n, ""))
		parses(t, "match ("+n+":"+n+" {"+n+": 1})-["+n+":"+n+"]->() set "+n+"."+n+" = 1 return "+n+" as "+n+" order by "+n, query(api.Part{
			Match:   matches(match(path(node(n, n, pair(n, num(1))), hop(n, n, api.DOut, node("", ""))))),
			Actions: []api.Action{{Kind: api.ASet, Var: n, Key: n, Val: []api.Expr{num(1)}}},
			Gives:   true, Items: []api.Item{item(name(n), n)}, Order: []api.OrderKey{{Name: n}}, Skip: -1, Limit: -1,
		}))
	}
	for _, w := range theWords {
		fails(t, "match ("+w+") return 1", api.ErrSyntax, 7)
		fails(t, "match (a:"+w+") return 1", api.ErrSyntax, 9)
		fails(t, "match ({"+w+": 1}) return 1", api.ErrSyntax, 8)
		fails(t, "return a."+w, api.ErrSyntax, 9)
		fails(t, "return a as "+w, api.ErrSyntax, 12)
		fails(t, "return a order by "+w, api.ErrSyntax, 18)
		fails(t, "delete "+w, api.ErrSyntax, 7)
		fails(t, "set a."+w+" = 1", api.ErrSyntax, 6)
	}
}

func TestP1003Cases(t *testing.T) {
	a, b := name("a"), name("b")
	for text, want := range map[string]api.Expr{
		"case when a then 1 end": cases(a, num(1), null()), "case when a then 1 else 2 end": cases(a, num(1), num(2)), "case when a then 1 when b then 2 else 3 end": cases(a, num(1), b, num(2), num(3)), "case when a then 1 when b then 2 end": cases(a, num(1), b, num(2), null()),
		"case when case when a then b end then 1 end + 1": bin(api.BAdd, cases(cases(a, b, null()), num(1), null()), num(1)), "case when a or b then not a else a = b end": cases(bin(api.BOr, a, b), un(api.UNot, a), bin(api.BEq, a, b)),
	} {
		reads(t, text, want)
	}
	for text, at := range map[string]int{
		"case end": 5, "case": 4, "case a when 1 then 2 end": 5, "case else 1 end": 5, "case when then 1 end": 10, "case when a end": 12, "case when a then end": 17, "case when a then 1": 18, "case when a then 1 else end": 24, "case when a then 1 else 2 when b then 3 end": 26, "case when a then 1 else 2 else 3 end": 26, "case when a then 1 end end": 23,
	} {
		failsExpr(t, text, api.ErrSyntax, at)
	}
}

func TestP1003Paths(t *testing.T) {
	empty := node("", "")
	for text, want := range map[string]api.Path{
		"()": path(empty), "(a)": path(node("a", "")), "(:x)": path(node("", "x")), "(a:x)": path(node("a", "x")), "({})": path(empty), "(a {})": path(node("a", "")), "({k: 1})": path(node("", "", pair("k", num(1)))), "(a:x {k: 1, j: a or b, k: 2})": path(node("a", "x", pair("k", num(1)), pair("j", bin(api.BOr, name("a"), name("b"))), pair("k", num(2)))),
		"()--()": path(empty, hop("", "", api.DBoth, empty)), "()-->()": path(empty, hop("", "", api.DOut, empty)), "()<--()": path(empty, hop("", "", api.DIn, empty)), "()-[]-()": path(empty, hop("", "", api.DBoth, empty)), "()-[]->()": path(empty, hop("", "", api.DOut, empty)), "()<-[]-()": path(empty, hop("", "", api.DIn, empty)),
		"(a)-[r]-(b)": path(node("a", ""), hop("r", "", api.DBoth, node("b", ""))), "()-[:t]->()": path(empty, hop("", "t", api.DOut, empty)), "()-[r:t {k: 1}]->()": path(empty, hop("r", "t", api.DOut, empty, pair("k", num(1)))), "()-[{k: 1}]->()": path(empty, hop("", "", api.DOut, empty, pair("k", num(1)))),
		"()-[*]-()": path(empty, star(hop("", "", api.DBoth, empty), 1, 5)), "()-[*..]-()": path(empty, star(hop("", "", api.DBoth, empty), 1, 5)), "()-[*3]-()": path(empty, star(hop("", "", api.DBoth, empty), 3, 3)), "()-[*3..]-()": path(empty, star(hop("", "", api.DBoth, empty), 3, 5)), "()-[*..3]-()": path(empty, star(hop("", "", api.DBoth, empty), 1, 3)), "()-[*2..4]-()": path(empty, star(hop("", "", api.DBoth, empty), 2, 4)), "()-[*2..2]-()": path(empty, star(hop("", "", api.DBoth, empty), 2, 2)), "()-[*1..5]-()": path(empty, star(hop("", "", api.DBoth, empty), 1, 5)), "()-[*1]-()": path(empty, star(hop("", "", api.DBoth, empty), 1, 1)), "()-[*5..]-()": path(empty, star(hop("", "", api.DBoth, empty), 5, 5)), "()-[* 02 .. 003]-()": path(empty, star(hop("", "", api.DBoth, empty), 2, 3)), "()-[r:t*..2 {k: 1}]->()": path(empty, star(hop("r", "t", api.DOut, empty, pair("k", num(1))), 1, 2)),
		"(a)-->(b)<-[r]-(c)--(d)": path(node("a", ""), hop("", "", api.DOut, node("b", "")), hop("r", "", api.DIn, node("c", "")), hop("", "", api.DBoth, node("d", ""))),
	} {
		parses(t, "create "+text, query(part(nil, api.Action{Kind: api.ACreate, Path: want})))
		parses(t, "match (z), "+text+" return 1", query(gives(part(matches(match(path(node("z", "")), want))), item(num(1), ""))))
	}
	for text, at := range map[string]int{
		"()-[*0]-()": 11, "()-[*6]-()": 11, "()-[*9223372036854775808]-()": 11, "()-[*0..3]-()": 11, "()-[*6..6]-()": 11, "()-[*..0]-()": 13, "()-[*..6]-()": 13, "()-[*3..2]-()": 14, "()-[*3..6]-()": 14, "()-[*-1]-()": 11, "()-[*3i]-()": 11, "()-[*a]-()": 11, "()-[*2.3]-()": 12, "()-[*2 3]-()": 13, "()-[2]-()": 10, "()-[..2]-()": 10,
		"()-": 9, "()-[]": 11, "()-[]-": 12, "()-[]>()": 11, "()<-[]->()": 13, "()<[]-()": 9, "()<>()": 8, "()->()": 9, "()<-()": 10, "()()": 8, "(a b)": 9, "(a,b)": 8, "(a.k)": 8, "(1)": 7, "(a:)": 9, "(:x:y)": 9, "({k})": 9, "({k: })": 11, "({k: 1,})": 13, "({1: 1})": 8, "({k = 1})": 10, "(a {k: 1} b)": 16, "()-[{k: 1} *]-()": 17, "()-[:t r]-()": 13, "a": 6, "": 6,
	} {
		fails(t, "match "+text, api.ErrSyntax, at)
	}
}

func TestP1003Actions(t *testing.T) {
	a, b := path(node("a", "")), path(node("b", ""))
	for text, want := range map[string][]api.Action{
		"create (a), (b)": {{Kind: api.ACreate, Path: a}, {Kind: api.ACreate, Path: b}}, "create (a) create (b)": {{Kind: api.ACreate, Path: a}, {Kind: api.ACreate, Path: b}},
		"merge (a), (b)": {{Kind: api.AMerge, Path: a}, {Kind: api.AMerge, Path: b}}, "merge (a:x {k: 1})": {{Kind: api.AMerge, Path: path(node("a", "x", pair("k", num(1))))}},
		"set a.k = 1, b.j = not a": {{Kind: api.ASet, Var: "a", Key: "k", Val: []api.Expr{num(1)}}, {Kind: api.ASet, Var: "b", Key: "j", Val: []api.Expr{un(api.UNot, name("a"))}}}, "set a.k = a = b": {{Kind: api.ASet, Var: "a", Key: "k", Val: []api.Expr{bin(api.BEq, name("a"), name("b"))}}},
		"remove a.k, b.j": {{Kind: api.ARemove, Var: "a", Key: "k"}, {Kind: api.ARemove, Var: "b", Key: "j"}},
		"delete a, b":     {{Kind: api.ADelete, Var: "a"}, {Kind: api.ADelete, Var: "b"}}, "detach delete a, b delete c": {{Kind: api.ADelete, Var: "a", Detach: true}, {Kind: api.ADelete, Var: "b", Detach: true}, {Kind: api.ADelete, Var: "c"}}, "delete c detach delete a": {{Kind: api.ADelete, Var: "c"}, {Kind: api.ADelete, Var: "a", Detach: true}},
		"abort": {abort()}, "abort abort": {abort(), abort()}, "delete a abort create (a) merge (b) remove a.k": {{Kind: api.ADelete, Var: "a"}, abort(), {Kind: api.ACreate, Path: a}, {Kind: api.AMerge, Path: b}, {Kind: api.ARemove, Var: "a", Key: "k"}},
	} {
		parses(t, text, query(part(nil, want...)))
		parses(t, text+" return 1", query(gives(part(nil, want...), item(num(1), ""))))
		parses(t, text+" with a return 1", query(gives(part(nil, want...), item(name("a"), "")), gives(part(nil), item(num(1), ""))))
		parses(t, "match () "+text, query(part(matches(match(path(node("", "")))), want...)))
	}
	for text, at := range map[string]int{
		"create": 6, "create a": 7, "create (a),": 11, "create (a), b": 12, "create (a) (b)": 11, "create (a) where a": 11, "merge": 5, "merge (a)-->(b)": 9, "merge (a), b": 11, "set a = 1": 6, "set a.k": 7, "set a.k 1": 8, "set a.k == 1": 9, "set a.k = 1, b = 2": 15, "set 1.k = 2": 4, "set a.k = 1,": 12, "remove a": 8, "remove a.k = 1": 11, "remove a.k,": 11, "delete": 6, "delete (a)": 7, "delete a.k": 8, "delete a,": 9, "detach": 6, "detach a": 7, "detach detach delete a": 7, "delete detach a": 7, "abort, abort": 5, "abort a": 6, "abort match (a) return 1": 6, "abort optional": 6, "abort where a": 6,
	} {
		fails(t, text, api.ErrSyntax, at)
	}
}

func TestP1003Given(t *testing.T) {
	a, b := name("a"), name("b")
	ret := func(p api.Part) api.Query { p.Gives = true; return query(p) }
	for text, want := range map[string]api.Query{
		"return a":           ret(api.Part{Items: []api.Item{item(a, "")}, Skip: -1, Limit: -1}),
		"return a as b, b.k": ret(api.Part{Items: []api.Item{item(a, "b"), item(prop("b", "k"), "")}, Skip: -1, Limit: -1}),
		"return distinct 1":  ret(api.Part{Once: true, Items: []api.Item{item(num(1), "")}, Skip: -1, Limit: -1}),
		"return a skip 0":    ret(api.Part{Items: []api.Item{item(a, "")}, Skip: 0, Limit: -1}),
		"return a limit 0":   ret(api.Part{Items: []api.Item{item(a, "")}, Skip: -1, Limit: 0}),
		"return a skip 007 limit 9223372036854775807":            ret(api.Part{Items: []api.Item{item(a, "")}, Skip: 7, Limit: math.MaxInt64}),
		"return a order by 1, b, 12 asc, c desc, 02 desc, d asc": ret(api.Part{Items: []api.Item{item(a, "")}, Order: []api.OrderKey{{Col: 1}, {Name: "b"}, {Col: 12}, {Name: "c", Desc: true}, {Col: 2, Desc: true}, {Name: "d"}}, Skip: -1, Limit: -1}),
		"return distinct a, b order by a skip 1 limit 2":         ret(api.Part{Once: true, Items: []api.Item{item(a, ""), item(b, "")}, Order: []api.OrderKey{{Name: "a"}}, Skip: 1, Limit: 2}),
	} {
		parses(t, text, want)
		last := gives(part(nil), item(num(1), ""))
		handing := query(want.Parts[0], last)
		handing.Parts[0].Items = []api.Item{item(a, ""), item(b, "c"), item(prop("a", "k"), "b")}
		handing.Parts[0].Once = true
		handing.Parts[0].Where = []api.Expr{bin(api.BOr, a, b)}
		_, tail, _ := cutItems(text)
		parses(t, "with distinct a, b as c, a.k as b"+tail+" where a or b return 1", handing)
	}
	for text, at := range map[string]int{
		"return": 6, "return ,": 7, "return a,": 9, "return a b": 9, "return distinct": 15, "return distinct distinct a": 16, "return a, distinct b": 10, "return a as": 11, "return a as 1": 12, "return a as b as c": 14, "return *": 7, "return match": 7,
		"return a order a": 15, "return a order by": 17, "return a order by 0": 18, "return a order by 13": 18, "return a order by 9223372036854775808": 18, "return a order by -1": 18, "return a order by a.k": 19, "return a order by a,": 20, "return a order by a, 0": 21, "return a order by a desc asc": 25, "return a order by 'a'": 18, "return a order by 3i": 18,
		"return a skip": 13, "return a skip a": 14, "return a skip -1": 14, "return a skip 9223372036854775808": 14, "return a limit 9223372036854775808": 15, "return a skip 1 + 1": 16, "return a skip 1 skip 2": 16, "return a limit 1 skip 2": 17, "return a limit 1 order by a": 17, "return a limit 1.5": 16, "return a where a": 9, "return a return b": 9, "return a with a": 9, "return a abort": 9, "return a match (b)": 9, "return a;": 8, "return a by b": 9,
	} {
		fails(t, text, api.ErrSyntax, at)
	}
}

// cutItems: what stands ahead of order, skip or limit, and from there on, with its blank.
func cutItems(text string) (items, tail string, found bool) {
	for i := range text {
		for _, w := range []string{" order ", " skip ", " limit "} {
			if len(text[i:]) > len(w) && text[i:i+len(w)] == w {
				return text[:i], text[i:], true
			}
		}
	}
	return text, "", false
}

func TestP1003With(t *testing.T) {
	last := gives(part(nil), item(num(1), ""))
	for text, want := range map[string]api.Item{
		"a": item(name("a"), ""), "(a)": item(name("a"), ""), "((a))": item(name("a"), ""), "a as b": item(name("a"), "b"), "(a) as b": item(name("a"), "b"), "a.k as b": item(prop("a", "k"), "b"), "1 as a": item(num(1), "a"), "count": item(name("count"), ""), "count(*) as n": item(agg(api.GCount, false), "n"), "-a as a": item(neg(name("a")), "a"),
	} {
		parses(t, "with "+text+" return 1", query(gives(part(nil), want), last))
		parses(t, "with z, "+text+", y return 1", query(gives(part(nil), item(name("z"), ""), want, item(name("y"), "")), last))
		parses(t, "with "+text+" limit 1 return 1", func() api.Query {
			p := gives(part(nil), want)
			p.Limit = 1
			return query(p, last)
		}())
	}
	for text, at := range map[string]int{
		"with a.k return 1": 9, "with a.k, b return 1": 8, "with 1 return 1": 7, "with a, 1 return 1": 10, "with -a return 1": 8, "with (a.k) return 1": 11, "with count(*) return 1": 14, "with a + b where a return 1": 11, "with a.k order by a return 1": 9, "with a.k": 8, "with 1; return 1": 6, "with not a limit 1 return 1": 11, "with a = b = c return 1": 11, "with a is null return 1": 15, "with 'a' return 1": 9, "with (a)) return 1": 8,
		"with": 4, "with return 1": 5, "with a": 6, "with a where return 1": 13, "with a where 1": 14, "with a where a where b return 1": 15, "with a where a limit 1 return 1": 15, "with a with b": 13, "where a return 1": 0, "with a match (b)": 16, "with a optional return 1": 16, "with a (b) return 1": 7,
	} {
		fails(t, text, api.ErrSyntax, at)
	}
}

func TestP1003Queries(t *testing.T) {
	a, b := path(node("a", "")), path(node("b", ""))
	ret := gives(part(nil), item(num(1), ""))
	where := func(m api.Match, e api.Expr) api.Match { m.Where = []api.Expr{e}; return m }
	opt := func(m api.Match) api.Match { m.Optional = true; return m }
	with := gives(part(nil), item(name("a"), ""))
	acting := with
	acting.Match, acting.Actions = matches(match(a)), []api.Action{abort()}
	acting.Where = []api.Expr{truth(true)}
	for text, want := range map[string]api.Query{
		"return 1": query(ret), "abort": query(part(nil, abort())), "abort return 1": query(gives(part(nil, abort()), item(num(1), ""))),
		"match (a) return 1": query(gives(part(matches(match(a))), item(num(1), ""))), "match (a), (b) return 1": query(gives(part(matches(match(a, b))), item(num(1), ""))), "match (a) match (b) return 1": query(gives(part(matches(match(a), match(b))), item(num(1), ""))),
		"optional match (a) where true match (b), (a) where false abort": query(part(matches(opt(where(match(a), truth(true))), where(match(b, a), truth(false))), abort())),
		"with a return 1": query(with, ret), "with a with a abort": query(with, with, part(nil, abort())), "match (a) abort with a where true match (b) return 1": query(acting, gives(part(matches(match(b))), item(num(1), ""))),
	} {
		parses(t, text, want)
		qs, code, at := syntax.Program(text)
		told(t, text, code, at, api.OK, 0)
		same(t, text, qs, []api.Query{want})
	}
	for text, at := range map[string]int{
		"match (a)": 9, "match": 5, "optional": 8, "optional (a)": 9, "match (a) where": 15, "match (a) where 1": 17, "match (a) where 1 where 2 return 1": 18, "match (a) where 1, 2 return 1": 17, "match (a), return 1": 11, "match (a) limit 1": 10, "1": 0, "a": 0, "(a)": 0, "'return' 1": 0, ";": 0, "return 1 2": 9,
	} {
		fails(t, text, api.ErrSyntax, at)
	}
}

func TestP1003Programs(t *testing.T) {
	one, two := query(part(nil, abort())), query(gives(part(nil), item(num(1), "")))
	for text, want := range map[string][]api.Query{
		"abort": {one}, "abort;": {one}, "abort;return 1": {one, two}, " abort ; return 1 ; // x": {one, two}, "return 1; return 1; abort": {two, two, one},
	} {
		got, code, at := syntax.Program(text)
		told(t, text, code, at, api.OK, 0)
		same(t, text, got, want)
	}
	for text, at := range map[string]int{
		"": 0, " ": 1, "// x": 4, ";": 0, "abort;;": 6, "abort; 5": 7, "abort, abort": 5, "abort; abort 1": 13, "abort; match (a)": 16, "; abort": 0, "abort return": 12,
	} {
		failsProgram(t, text, api.ErrSyntax, at)
	}
}

// TestP1003LexFirst: a fault of tokens comes ahead of all of the grammar.
func TestP1003LexFirst(t *testing.T) {
	failsLex(t, "match match match 'a", api.ErrChar, 18)
	failsLex(t, row(30, "1", "+")+" abcdefghi", api.ErrLong, 60)
	failsLex(t, row(30, "abort", ";")+" A", api.ErrChar, 180)
}
