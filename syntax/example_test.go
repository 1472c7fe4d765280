package syntax_test

import (
	"strings"
	"testing"

	"trellis/api"
	"trellis/syntax"
)

// The chapter's examples, by their numbers.

func TestP1001Example1(t *testing.T) {
	lexes(t, "a <- 3i //x", api.Token{Kind: api.TokName, Text: "a"}, api.Token{Kind: api.TokMark, Text: "<", At: 2}, api.Token{Kind: api.TokMark, Text: "-", At: 3}, api.Token{Kind: api.TokImag, Text: "3i", At: 5}, api.Token{Kind: api.TokEnd, At: 11})
	failsLex(t, "12a", api.ErrChar, 2)
	failsLex(t, "3i5", api.ErrChar, 1)
	failsLex(t, "abcdefghi", api.ErrLong, 0)
	failsLex(t, "x 'a", api.ErrChar, 2)
	failsLex(t, "A", api.ErrChar, 0)
	failsLex(t, `'\x41'`, api.ErrChar, 0)
}

func TestP1003Example2(t *testing.T) {
	a, b, c := name("a"), name("b"), name("c")
	reads(t, "1 + 2 * 3", bin(api.BAdd, num(1), bin(api.BMul, num(2), num(3))))
	reads(t, "a - b - c", bin(api.BSub, bin(api.BSub, a, b), c))
	reads(t, "not a = b", un(api.UNot, bin(api.BEq, a, b)))
	failsExpr(t, "a = b = c", api.ErrSyntax, 6)
	reads(t, "-a.k", neg(prop("a", "k")))
	reads(t, "-5", num(-5))
	reads(t, "--5", neg(num(-5)))
	reads(t, "-(5)", neg(num(5)))
	for _, text := range []string{"-5", "--5", "-(5)"} {
		e, _, _ := syntax.ParseExpr(text)
		tells(t, e, text)
	}
}

func TestP1004Example3(t *testing.T) {
	a, b, c := name("a"), name("b"), name("c")
	tells(t, bin(api.BMul, bin(api.BAdd, a, b), c), "(a + b) * c")
	tells(t, bin(api.BSub, a, bin(api.BSub, b, c)), "a - (b - c)")
	tells(t, bin(api.BAdd, num(3), imag(4)), "3 + 4i")
	untold(t, val(api.Val{Kind: api.KCpx, A: 3, B: 4}), api.ErrForm)
}

func TestP1004Example4(t *testing.T) {
	again(t, "match (a:city {pop: 3})-[r:road*..2]->(b)<--() where a.k is not null return a.pop as p, count(*) order by p desc, 2 limit 10",
		"match (a:city {pop: 3})-[r:road*1..2]->(b)<-[]-() where a.k is not null return a.pop as p, count(*) order by p desc, 2 limit 10")
}

func TestP1003Example5(t *testing.T) {
	fails(t, "match (a)", api.ErrSyntax, 9)
	fails(t, "", api.ErrSyntax, 0)
	fails(t, "match (a) with a.k return 1", api.ErrSyntax, 19)
	parses(t, "create (a)-[:t]->(b), (c) set a.k = 1, b.k = 2 abort", query(part(nil,
		api.Action{Kind: api.ACreate, Path: path(node("a", ""), hop("", "t", api.DOut, node("b", "")))},
		api.Action{Kind: api.ACreate, Path: path(node("c", ""))},
		api.Action{Kind: api.ASet, Var: "a", Key: "k", Val: []api.Expr{num(1)}},
		api.Action{Kind: api.ASet, Var: "b", Key: "k", Val: []api.Expr{num(2)}},
		abort())))
}

func TestP1008Example6(t *testing.T) {
	fails(t, "match (a) (b)", api.ErrSyntax, 10)
	fails(t, "return foo(1)", api.ErrSyntax, 10)
	fails(t, "return re()", api.ErrSyntax, 10)
	fails(t, "return sum(*)", api.ErrSyntax, 11)
	fails(t, "match (a)<-[]->(b) return 1", api.ErrSyntax, 14)
}

func TestP1003Example7(t *testing.T) {
	failsExpr(t, "9223372036854775808", api.ErrSyntax, 0)
	reads(t, "-9223372036854775808", num(-9223372036854775808))
	e, _, _ := syntax.ParseExpr("case when a then 1 end")
	tells(t, e, "case when a then 1 else null end")
}

func TestP1003Example8(t *testing.T) {
	qs, code, at := syntax.Program("create (a:x); return 1;")
	told(t, "two queries", code, at, api.OK, 0)
	same(t, "two queries", qs, []api.Query{
		query(part(nil, api.Action{Kind: api.ACreate, Path: path(node("a", "x"))})),
		query(gives(part(nil), item(num(1), ""))),
	})
	failsProgram(t, ";", api.ErrSyntax, 0)
	failsProgram(t, "abort;;", api.ErrSyntax, 6)
	failsProgram(t, row(17, "abort", ";"), api.ErrMany, 16*6)
}

func TestP1003Example9(t *testing.T) {
	_, code, at := syntax.ParseExpr(row(24, "1", " + "))
	told(t, "24 ones", code, at, api.OK, 0)
	failsExpr(t, row(25, "1", " + "), api.ErrDeep, 0)
	reads(t, strings.Repeat("(", 30)+"1"+strings.Repeat(")", 30), num(1))
	failsExpr(t, "x in [1, 2, 3, 4, 5, 6, 7, 8, 9]", api.ErrMany, 30)
}

func TestP1004Example10(t *testing.T) {
	unprinted(t, query(gives(part(nil), item(name("match"), ""))), api.ErrForm)
	unprinted(t, query(gives(part(matches(match(path(node("match", ""))))), item(num(1), ""))), api.ErrForm)
}
