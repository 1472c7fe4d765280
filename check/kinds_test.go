package check_test

import (
	"fmt"
	"slices"
	"strings"
	"testing"

	"trellis/api"
	"trellis/check"
	"trellis/syntax"
)

// of: an expression that has just these kinds, told as a sum, with n a node, e an edge and v anything.
func of(sum int) api.Expr {
	none := un(api.UNeg, str("a"))
	single := []api.Expr{null(), truth(), num(1), imag(1), str("a"), call(api.FCoalesce, name("n"), none), call(api.FCoalesce, name("e"), none)}
	out := none
	for k, one := range single {
		switch {
		case sum>>k&1 == 0:
		case out.Op == api.EUn:
			out = one
		case out.Op == api.ECase && len(out.Kids) < 9:
			out = cases(append([]api.Expr{name("v"), one}, out.Kids...)...)
		default:
			out = cases(name("v"), one, out)
		}
	}
	return out
}

// tells: Kinds, with the variables of vars, must answer that.
func tells(t *testing.T, e api.Expr, want int) {
	t.Helper()
	got, err := check.Kinds(e, vars())
	if api.Code(err) != api.OK || got != want {
		text, _ := syntax.PrintExpr(e)
		t.Errorf("%s: %d, %v; want %d", text, got, err, want)
	}
}

func TestP1102Sets(t *testing.T) {
	for sum := range 128 {
		tells(t, of(sum), sum)
	}
}

// asBookSays: Kinds must answer what the second reckoning does.
func asBookSays(t *testing.T, e api.Expr) {
	t.Helper()
	want, _ := bookKinds(e, vars())
	tells(t, e, want)
}

// TestP1102OneKid: each form of one kid, for each set of kinds.
func TestP1102OneKid(t *testing.T) {
	for sum := range 128 {
		x := of(sum)
		for sub := 1; sub <= 2; sub++ {
			asBookSays(t, un(sub, x))
			asBookSays(t, isNull(sub, x))
		}
		for _, sub := range []int{api.FRe, api.FIm, api.FConj, api.FNorm, api.FLen, api.FAbs, api.FLabel, api.FType, api.FDeg, api.FCoalesce} {
			asBookSays(t, call(sub, x))
		}
		for sub := api.GCount; sub <= api.GAvg; sub++ {
			asBookSays(t, agg(sub, x))
		}
		asBookSays(t, in(x))
	}
}

// twoKids: each form of two kids.
func twoKids(x, y api.Expr) []api.Expr {
	out := []api.Expr{in(x, y), call(api.FCpx, x, y), call(api.FHops, x, y), call(api.FDist, x, y), call(api.FCoalesce, x, y), cases(x, y, null()), cases(x, null(), y), cases(x, y, y)}
	for sub := api.BAdd; sub <= api.BHas; sub++ {
		if sub != api.BCpx {
			out = append(out, bin(sub, x, y))
		}
	}
	return out
}

// TestP1102TwoKids: each form of two kids: all pairs of sets of at most one kind, and drawn ones.
func TestP1102TwoKids(t *testing.T) {
	few := []int{0, 1, 2, 4, 8, 16, 32, 64, 127, 3, 33}
	for _, a := range few {
		for _, b := range few {
			for _, e := range twoKids(of(a), of(b)) {
				asBookSays(t, e)
			}
		}
	}
	d := newDraw(1102, 0)
	for range 500 {
		for _, e := range twoKids(of(d.Intn(128)), of(d.Intn(128))) {
			asBookSays(t, e)
		}
	}
}

// TestP1102ManyKids: lists, cases and coalesce of several drawn sets.
func TestP1102ManyKids(t *testing.T) {
	d := newDraw(1103, 0)
	for range 3000 {
		kid := func() api.Expr {
			return of(pick(d, 0, 1, 1, 2, 3, 4, 33, 1<<d.Intn(7), d.Intn(128), d.Intn(128)|1, d.Intn(128)|3))
		}
		kids := some(d, 1, 9, kid)
		asBookSays(t, in(kids...))
		asBookSays(t, call(api.FCoalesce, kids...))
		if len(kids)%2 == 0 {
			kids = kids[1:]
		}
		if len(kids) > 1 {
			asBookSays(t, cases(kids...))
		}
	}
}

// TestP1102Table: the chapter's words for each operation, one by one.
func TestP1102Table(t *testing.T) {
	for text, want := range map[string]int{
		"null": 1, "true": 2, "1": 4, "-1": 4, "1i": 8, "'a'": 16, "n": 33, "e": 65, "v": 127, "n.k": 31, "e.k": 31, "v.k": 31,
		"-null": 1, "-(1)": 4, "-(1i)": 8, "-true": 0, "-n.k": 13, "-n": 1, "-v": 13,
		"not true": 2, "not null": 1, "not 1": 0, "not v": 3,
		"re(1)": 4, "re(1i)": 4, "im(1)": 4, "im(1i)": 4, "norm(1)": 4, "norm(1i)": 4, "conj(1)": 4, "conj(1i)": 8, "abs(1)": 4, "abs(1i)": 0, "len('a')": 4, "len(1)": 0, "len(v)": 5, "abs(v)": 5, "conj(v)": 13, "norm(v)": 5, "re('a')": 0, "im(null)": 1,
		"1 + 1": 4, "1 + 1i": 8, "1i + 1": 8, "1i - 1i": 8, "'a' + 'b'": 16, "'a' - 'b'": 0, "'a' + 1": 0, "true + true": 0, "v + v": 29, "v - v": 13, "v * 1i": 9, "1i / 1i": 8, "7 % 2": 4, "n + 1": 1, "null + null": 1, "null * 'a'": 1,
		"1 = 'a'": 2, "n <> e": 3, "null = 1": 1, "1 < 2": 2, "'a' <= 'b'": 2, "true > false": 2, "1 >= 1i": 1, "1i < 1i": 1, "n < n": 1, "1 < 'a'": 1, "v < v": 3, "v < 1i": 1,
		"'a' starts with 'b'": 2, "'a' ends with 1": 0, "null contains 1": 1, "v contains v": 3,
		"cpx(1, 2)": 8, "cpx(1, 1i)": 0, "cpx(1, null)": 1, "cpx(v, v)": 9,
		"true and false": 2, "true and null": 3, "null and true": 3, "null or null": 1, "true or null": 3, "true xor null": 1, "null xor null": 1, "true xor true": 2, "true and 1": 0, "null and 1": 0, "null xor 1": 0, "1 or 1": 0, "v and v": 3, "v xor true": 3,
		"label(n)": 17, "label(null)": 1, "label(v)": 17, "label(1)": 0, "label(n.k)": 1, "type(e)": 17, "type(v)": 17, "type(1)": 0, "type(null)": 1, "deg(n)": 5, "deg(v, t)": 5, "deg('a')": 0, "deg(null)": 1,
		"hops(n, n)": 5, "hops(n, null)": 1, "hops(null, n)": 1, "hops(null, null)": 1, "hops(n, 1)": 0, "hops(1, n)": 0, "hops(1, null)": 0, "hops(null, 1)": 0, "dist(n, v, t, w)": 5, "dist(null, v, t, w)": 1, "hops(v, v, t)": 5,
		"1 is null": 2, "null is not null": 2, "(1 + 'a') is null": 0,
		"1 in []": 2, "null in []": 2, "(-'a') in []": 0, "1 in [1]": 2, "1 in [null]": 1, "null in [1]": 1, "null in [null]": 1, "1 in [null, 1]": 3, "v in [1]": 3, "1 in [v]": 3, "1 in [1, -'a']": 0, "n in [e]": 3,
		"coalesce(1)": 4, "coalesce(null)": 1, "coalesce(1, 'a')": 4, "coalesce(null, 'a')": 16, "coalesce(n, e)": 97, "coalesce(n, 1, e)": 36, "coalesce(n, -'a', 1)": 32, "coalesce(-'a', 1)": 0, "coalesce(n.k, n.j)": 31, "coalesce(null, null, n)": 33,
		"case when true then 1 end": 5, "case when null then 1 end": 1, "case when 1 then 1 end": 0, "case when v then 1 else 'a' end": 20, "case when true then 1 when 1 then 'a' else 1i end": 4, "case when null then 1 when true then 'a' else 1i end": 24, "case when 1 then 1 when true then 'a' else 1i end": 0, "case when null then -'a' else -'a' end": 0, "case when n then 1 else 2i end": 8, "case when -'a' then 1 else 2 end": 0, "case when true then -'a' else 2 end": 4,
		"count(*)": 4, "count(v)": 4, "count(-'a')": 4, "sum(1)": 4, "sum(1i)": 12, "sum('a')": 4, "sum(v)": 12, "sum(-'a')": 4, "min(1)": 5, "max(v)": 127, "max(null)": 1, "min(-'a')": 1, "min(n)": 33, "avg(1)": 5, "avg(v)": 13, "avg('a')": 1, "avg(1i)": 9, "avg(distinct n.k)": 13, "count(*) + 1": 4, "sum(1i) + 'a'": 0, "max(n.k) or true": 3,
	} {
		kinds(t, text, want)
	}
}

// TestP1102Args: a list that is no list of variables, ahead of all else.
func TestP1102Args(t *testing.T) {
	fine, formless, unbound := num(1), api.Expr{}, name("x")
	for _, bad := range [][]api.Bound{
		{{Name: ""}}, {{Name: "A"}}, {{Name: "1a"}}, {{Name: "abcdefghi"}}, {{Name: "a b"}}, {{Name: "é"}}, {{Name: "a\x00"}},
		{anyVar("a"), anyVar("a")}, {nodeVar("a"), anyVar("b"), edgeVar("a")},
		{{Name: "a", Kind: 1}}, {{Name: "a", Kind: 2}}, {{Name: "a", Kind: 3}}, {{Name: "a", Kind: 4}}, {{Name: "a", Kind: 7}}, {{Name: "a", Kind: -1}}, {{Name: "a", Kind: 1 << 40}}, {nodeVar("a"), {Name: "b", Kind: 5 + 64}},
	} {
		for _, e := range []api.Expr{fine, formless, unbound} {
			failsKinds(t, fmt.Sprintf("vars %+v", bad), e, bad, api.ErrArg)
		}
	}
	for _, good := range [][]api.Bound{nil, {}, {anyVar("match")}, {anyVar("abcdefgh"), nodeVar("a0"), edgeVar("a1")}} {
		got, err := check.Kinds(fine, good)
		told(t, "vars", err, api.OK)
		same(t, "vars", got, 4)
	}
}

// TestP1102Form: a tree that no text has; one that is too long is none of these.
func TestP1102Form(t *testing.T) {
	for _, e := range []api.Expr{{}, {Op: 11}, {Op: -1}, val(api.Val{Kind: api.KNode, A: 1}), val(api.Val{Kind: api.KCpx, A: 1, B: 1}), val(api.Val{Kind: 9}), name(""), name("match"), name("A"), prop("a", ""), {Op: api.EUn, Sub: 1}, un(3, num(1)), bin(api.BCpx, num(1), num(1)), bin(0, num(1), num(1)), {Op: api.EBin, Sub: 1, Kids: []api.Expr{num(1)}}, isNull(0, num(1)), isNull(3, num(1)), call(0, num(1)), call(14, num(1)), call(api.FRe), call(api.FCpx, num(1)), call(api.FCoalesce), cases(), cases(num(1)), cases(truth(), num(1)), in(), agg(0), agg(6, num(1)), agg(api.GSum), {Op: api.ELit, Val: num(1).Val, Kids: []api.Expr{num(1)}}} {
		failsKinds(t, fmt.Sprintf("%+v", e), e, vars(), api.ErrForm)
		refused(t, fmt.Sprintf("%+v", e), returns(e, "a"), api.ErrForm)
	}
	deep := num(1)
	for range 23 {
		deep = un(api.UNeg, deep)
	}
	got, err := check.Kinds(deep, nil)
	told(t, "depth 24", err, api.OK)
	same(t, "depth 24", got, 4)
	failsKinds(t, "depth 25", un(api.UNeg, deep), nil, api.ErrForm)
	failsKinds(t, "formless beside unbound", bin(api.BAdd, name("x"), api.Expr{}), nil, api.ErrForm)
}

// TestP1102Faults: names and places, in the order of the walk.
func TestP1102Faults(t *testing.T) {
	for text, want := range map[string]api.Errno{
		"x": api.ErrUnbound, "x.k": api.ErrUnbound, "1 + (2 * x)": api.ErrUnbound, "count(x)": api.ErrUnbound, "n.k + x + count(*)": api.ErrPlace, "x + n.k + count(*)": api.ErrUnbound,
		"n + count(*)": api.ErrPlace, "count(*) + v.k": api.ErrPlace, "sum(max(1))": api.ErrPlace, "sum(1 + count(*))": api.ErrPlace, "sum(x + count(*))": api.ErrUnbound, "sum(count(x))": api.ErrPlace,
		"label(e)": api.ErrMix, "deg(e)": api.ErrMix, "deg(e, t)": api.ErrMix, "type(n)": api.ErrMix, "hops(e, n)": api.ErrMix, "hops(n, e)": api.ErrMix, "hops(x, e)": api.ErrMix, "dist(n, e, t, w)": api.ErrMix, "dist(e, x, t, w)": api.ErrMix, "hops(n, x)": api.ErrUnbound, "label(x)": api.ErrUnbound,
		"x + label(e)": api.ErrUnbound, "label(e) + x": api.ErrMix, "label(e) + count(*)": api.ErrMix, "max(label(e))": api.ErrMix, "label(n) + count(*)": api.ErrPlace, "coalesce(label(x), type(n))": api.ErrUnbound,
	} {
		failsKinds(t, text, parsedExpr(t, text), vars(), want)
	}
	for text, want := range map[string]int{"label(coalesce(e, e))": 1, "type(coalesce(n))": 1, "re(e)": 1, "coalesce(e, n)": 97, "hops(n, n) + deg(v)": 5, "sum(n.k) + max(v) + 1": 13, "max(label(n))": 17, "sum(n.k + v) + avg(e.k)": 13} {
		kinds(t, text, want)
	}
}

// sum: the strings, added up in pairs of pairs.
func sum(of []api.Expr) api.Expr {
	if len(of) == 1 {
		return of[0]
	}
	half := len(of) / 2
	return bin(api.BAdd, sum(of[:half]), sum(of[half:]))
}

// long: an expression whose text has so many bytes.
func long(length int) api.Expr {
	strs := slices.Repeat([]api.Expr{str("")}, 128)
	bare, _ := syntax.PrintExpr(sum(strs))
	left := length - len(bare)
	for i := range strs {
		n := min(left, api.MaxStr)
		strs[i] = str(strings.Repeat("z", n))
		left -= n
	}
	return sum(strs)
}

// TestP1103Long: a column without a name of its own has its text as one, which must not be too long; a query may be.
func TestP1103Long(t *testing.T) {
	text, code := syntax.PrintExpr(long(4096))
	if code != api.OK || len(text) != 4096 {
		t.Fatalf("PrintExpr: %d bytes, %d", len(text), code)
	}
	got, err := check.Check(returns(long(4096), ""))
	told(t, "a long query", err, api.OK)
	same(t, "a long query", got, api.Scope{Cols: []string{text}})
	for n := 4097; n < 4110; n++ {
		e := long(n)
		refused(t, "a long column", returns(e, ""), api.ErrLong)
		got, err := check.Check(returns(e, "a"))
		told(t, "a long expression", err, api.OK)
		same(t, "a long expression", got, api.Scope{Cols: []string{"a"}})
		kinds, err := check.Kinds(e, nil)
		told(t, "a long expression", err, api.OK)
		same(t, "a long expression", kinds, 16)
	}
	item := func(e api.Expr, as string) api.Item { return api.Item{Expr: e, As: as} }
	refused(t, "ErrKind ahead", query(gives(part(nil), item(bin(api.BAdd, num(1), long(4097)), ""))), api.ErrKind)
	refused(t, "ErrTwice ahead", query(gives(part(nil), item(num(1), ""), item(num(1), ""), item(long(4097), ""))), api.ErrTwice)
	refused(t, "ErrLong ahead", query(gives(part(nil), item(num(1), ""), item(long(4097), ""), item(num(1), ""))), api.ErrLong)
	several := query(gives(part(nil), item(long(3000), ""), item(long(3001), ""), item(long(3002), "b")))
	if _, err := check.Check(several); err != nil {
		t.Errorf("a long query of shorter columns: %v", err)
	}
	programs(t, "a long program", slices.Repeat([]api.Query{several}, 16), 0, api.OK)
	same(t, "with", toldOf(t, "with 1 as a return a").Cols, []string{"a"})
	with := query(gives(part(nil), item(long(4097), "a")), gives(part(nil), item(name("a"), "")))
	if _, err := check.Check(with); err != nil {
		t.Errorf("a long item behind with: %v", err)
	}
}
