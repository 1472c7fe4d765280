package syntax_test

import (
	"fmt"
	"reflect"
	"strings"
	"testing"

	"trellis/api"
	"trellis/syntax"
)

// Trees, written short.

func val(v api.Val) api.Expr    { return api.Expr{Op: api.ELit, Val: v} }
func num(n int64) api.Expr      { return val(api.Val{Kind: api.KInt, A: n}) }
func imag(n int64) api.Expr     { return val(api.Val{Kind: api.KCpx, B: n}) }
func str(s string) api.Expr     { return val(api.Val{Kind: api.KStr, S: s}) }
func null() api.Expr            { return val(api.Val{}) }
func name(s string) api.Expr    { return api.Expr{Op: api.EVar, Name: s} }
func neg(x api.Expr) api.Expr   { return un(api.UNeg, x) }
func prop(s, k string) api.Expr { return api.Expr{Op: api.EProp, Name: s, Key: k} }

func truth(b bool) api.Expr {
	if b {
		return val(api.Val{Kind: api.KBool, A: 1})
	}
	return val(api.Val{Kind: api.KBool})
}

func un(sub int, x api.Expr) api.Expr {
	return api.Expr{Op: api.EUn, Sub: sub, Kids: []api.Expr{x}}
}

func bin(sub int, x, y api.Expr) api.Expr {
	return api.Expr{Op: api.EBin, Sub: sub, Kids: []api.Expr{x, y}}
}

func isNull(sub int, x api.Expr) api.Expr {
	return api.Expr{Op: api.ENull, Sub: sub, Kids: []api.Expr{x}}
}

func in(kids ...api.Expr) api.Expr    { return api.Expr{Op: api.EIn, Kids: kids} }
func cases(kids ...api.Expr) api.Expr { return api.Expr{Op: api.ECase, Kids: kids} }

func call(sub int, kids ...api.Expr) api.Expr {
	return api.Expr{Op: api.ECall, Sub: sub, Kids: kids}
}

// named: the call with names behind its kids.
func named(e api.Expr, name, key string) api.Expr {
	e.Name, e.Key = name, key
	return e
}

func agg(sub int, once bool, kids ...api.Expr) api.Expr {
	return api.Expr{Op: api.EAgg, Sub: sub, Once: once, Kids: kids}
}

// part: one that gives nothing.
func part(matches []api.Match, actions ...api.Action) api.Part {
	return api.Part{Match: matches, Actions: actions, Skip: -1, Limit: -1}
}

// gives: the part with these items.
func gives(p api.Part, items ...api.Item) api.Part {
	p.Gives, p.Items = true, items
	return p
}

func item(e api.Expr, as string) api.Item { return api.Item{Expr: e, As: as} }

func query(parts ...api.Part) api.Query { return api.Query{Parts: parts} }

func matches(of ...api.Match) []api.Match { return of }

func match(paths ...api.Path) api.Match { return api.Match{Paths: paths} }

func path(from api.NodePat, hops ...api.HopPat) api.Path { return api.Path{From: from, Hops: hops} }

func node(name, label string, props ...api.Pair) api.NodePat {
	return api.NodePat{Var: name, Label: label, Props: props}
}

// hop: without a star.
func hop(name, kind string, dir int, to api.NodePat, props ...api.Pair) api.HopPat {
	return api.HopPat{Var: name, Type: kind, Dir: dir, Min: 1, Max: 1, To: to, Props: props}
}

// star: the hop with these lengths.
func star(h api.HopPat, least, most int) api.HopPat {
	h.Star, h.Min, h.Max = true, least, most
	return h
}

func pair(key string, e api.Expr) api.Pair { return api.Pair{Key: key, Val: e} }

func abort() api.Action { return api.Action{Kind: api.AAbort} }

// alike: are the two the same, lists nil or empty alike?
func alike(a, b any) bool { return alikeIn(reflect.ValueOf(a), reflect.ValueOf(b)) }

func alikeIn(a, b reflect.Value) bool {
	if a.Kind() == reflect.Interface {
		a, b = a.Elem(), b.Elem()
	}
	if a.IsValid() && b.IsValid() && a.Type() != b.Type() {
		return false
	}
	switch a.Kind() {
	case reflect.Slice:
		if a.Len() != b.Len() {
			return false
		}
		for i := range a.Len() {
			if !alikeIn(a.Index(i), b.Index(i)) {
				return false
			}
		}
		return true
	case reflect.Struct:
		for i := range a.NumField() {
			if !alikeIn(a.Field(i), b.Field(i)) {
				return false
			}
		}
		return true
	}
	return a.Equal(b)
}

// same: the two must be the same, lists nil or empty alike.
func same[T any](t *testing.T, what string, got, want T) {
	t.Helper()
	if !alike(got, want) {
		t.Errorf("%s = %+v, want %+v", what, got, want)
	}
}

// zero: with an error all else must be zero.
func zero(t *testing.T, what string, got any) {
	t.Helper()
	if v := reflect.ValueOf(got); !alikeIn(v, reflect.Zero(v.Type())) {
		t.Errorf("%s answers %+v beside an error", what, got)
	}
}

// told: a code and a place.
func told(t *testing.T, what string, code api.Errno, at int, wantCode api.Errno, wantAt int) {
	t.Helper()
	if code != wantCode || at != wantAt {
		t.Errorf("%.200s: error %d at %d, want %d at %d", what, code, at, wantCode, wantAt)
	}
}

// reads: ParseExpr must answer the tree.
func reads(t *testing.T, text string, want api.Expr) {
	t.Helper()
	got, code, at := syntax.ParseExpr(text)
	told(t, text, code, at, api.OK, 0)
	same(t, text, got, want)
}

// parses: Parse must answer the tree.
func parses(t *testing.T, text string, want api.Query) {
	t.Helper()
	got, code, at := syntax.Parse(text)
	told(t, text, code, at, api.OK, 0)
	same(t, text, got, want)
}

// failsExpr: ParseExpr must answer that error at that place, and a zero tree.
func failsExpr(t *testing.T, text string, code api.Errno, at int) {
	t.Helper()
	got, gotCode, gotAt := syntax.ParseExpr(text)
	told(t, text, gotCode, gotAt, code, at)
	zero(t, text, got)
}

// fails: Parse must answer that error at that place, and a zero tree.
func fails(t *testing.T, text string, code api.Errno, at int) {
	t.Helper()
	got, gotCode, gotAt := syntax.Parse(text)
	told(t, text, gotCode, gotAt, code, at)
	zero(t, text, got)
}

// failsProgram: Program must answer that error at that place, and no queries.
func failsProgram(t *testing.T, text string, code api.Errno, at int) {
	t.Helper()
	got, gotCode, gotAt := syntax.Program(text)
	told(t, text, gotCode, gotAt, code, at)
	zero(t, text, got)
}

// tells: PrintExpr must answer that text.
func tells(t *testing.T, e api.Expr, want string) {
	t.Helper()
	text, code := syntax.PrintExpr(e)
	told(t, "PrintExpr for "+want, code, 0, api.OK, 0)
	same(t, "PrintExpr", text, want)
}

// prints: Print must answer that text.
func prints(t *testing.T, q api.Query, want string) {
	t.Helper()
	text, code := syntax.Print(q)
	told(t, "Print for "+want, code, 0, api.OK, 0)
	same(t, "Print", text, want)
}

// untold: PrintExpr must answer that error. (The tree may have a ring: its first expression alone is told.)
func untold(t *testing.T, e api.Expr, want api.Errno) {
	t.Helper()
	text, code := syntax.PrintExpr(e)
	e.Kids = nil
	told(t, fmt.Sprintf("PrintExpr of %+v and its kids", e), code, 0, want, 0)
	same(t, "PrintExpr", text, "")
}

// unprinted: Print must answer that error.
func unprinted(t *testing.T, q api.Query, want api.Errno) {
	t.Helper()
	text, code := syntax.Print(q)
	told(t, fmt.Sprintf("Print of %d parts", len(q.Parts)), code, 0, want, 0)
	same(t, "Print", text, "")
}

// again: Parse of the text, printed, must be the other text.
func again(t *testing.T, text, want string) {
	t.Helper()
	q, code, at := syntax.Parse(text)
	told(t, text, code, at, api.OK, 0)
	prints(t, q, want)
}

// row: so many of them with what stands between.
func row(count int, one, between string) string {
	return strings.TrimSuffix(strings.Repeat(one+between, count), between)
}
