package check_test

import (
	"errors"
	"reflect"
	"testing"

	"trellis/api"
	"trellis/check"
	"trellis/syntax"
)

// Trees, written short.

func val(v api.Val) api.Expr    { return api.Expr{Op: api.ELit, Val: v} }
func num(n int64) api.Expr      { return val(api.Val{Kind: api.KInt, A: n}) }
func imag(n int64) api.Expr     { return val(api.Val{Kind: api.KCpx, B: n}) }
func str(s string) api.Expr     { return val(api.Val{Kind: api.KStr, S: s}) }
func null() api.Expr            { return val(api.Val{}) }
func truth() api.Expr           { return val(api.Val{Kind: api.KBool, A: 1}) }
func name(s string) api.Expr    { return api.Expr{Op: api.EVar, Name: s} }
func prop(s, k string) api.Expr { return api.Expr{Op: api.EProp, Name: s, Key: k} }

func un(sub int, x api.Expr) api.Expr {
	return api.Expr{Op: api.EUn, Sub: sub, Kids: []api.Expr{x}}
}

func bin(sub int, x, y api.Expr) api.Expr {
	return api.Expr{Op: api.EBin, Sub: sub, Kids: []api.Expr{x, y}}
}

func isNull(sub int, x api.Expr) api.Expr {
	return api.Expr{Op: api.ENull, Sub: sub, Kids: []api.Expr{x}}
}

func in(kids ...api.Expr) api.Expr    { return api.Expr{Op: api.EIn, Kids: kids} }
func cases(kids ...api.Expr) api.Expr { return api.Expr{Op: api.ECase, Kids: kids} }

func call(sub int, kids ...api.Expr) api.Expr {
	e := api.Expr{Op: api.ECall, Sub: sub, Kids: kids}
	if sub == api.FDist {
		e.Name, e.Key = "t", "w"
	}
	return e
}

func agg(sub int, kids ...api.Expr) api.Expr {
	return api.Expr{Op: api.EAgg, Sub: sub, Kids: kids}
}

// part: one that gives nothing.
func part(matches []api.Match, actions ...api.Action) api.Part {
	return api.Part{Match: matches, Actions: actions, Skip: -1, Limit: -1}
}

// gives: the part with these items.
func gives(p api.Part, items ...api.Item) api.Part {
	p.Gives, p.Items = true, items
	return p
}

func query(parts ...api.Part) api.Query { return api.Query{Parts: parts} }

// returns: a query that gives the one column.
func returns(e api.Expr, as string) api.Query {
	return query(gives(part(nil), api.Item{Expr: e, As: as}))
}

func nodeVar(name string) api.Bound { return api.Bound{Name: name, Kind: api.KNode} }
func edgeVar(name string) api.Bound { return api.Bound{Name: name, Kind: api.KEdge} }
func anyVar(name string) api.Bound  { return api.Bound{Name: name} }

// alike: are the two the same, lists nil or empty alike?
func alike(a, b any) bool { return alikeIn(reflect.ValueOf(a), reflect.ValueOf(b)) }

func alikeIn(a, b reflect.Value) bool {
	switch a.Kind() {
	case reflect.Slice:
		if a.Len() != b.Len() {
			return false
		}
		for i := range a.Len() {
			if !alikeIn(a.Index(i), b.Index(i)) {
				return false
			}
		}
		return true
	case reflect.Struct:
		for i := range a.NumField() {
			if !alikeIn(a.Field(i), b.Field(i)) {
				return false
			}
		}
		return true
	}
	return a.Equal(b)
}

// same: the two must be the same, lists nil or empty alike.
func same[T any](t *testing.T, what string, got, want T) {
	t.Helper()
	if !alike(got, want) {
		t.Errorf("%.300s = %+v, want %+v", what, got, want)
	}
}

// errnos: those that an error of this package may be taken for.
var errnos = []api.Errno{-1, api.OK, api.ErrArg, api.ErrKind, api.ErrName, api.ErrSyntax, api.ErrLong, api.ErrDeep, api.ErrMany, api.ErrForm, api.ErrUnbound, api.ErrTwice, api.ErrMix, api.ErrPlace}

// told: the error must be, or wrap, that number and no other one, in each way in which it can be asked; nil for OK.
func told(t *testing.T, what string, err error, want api.Errno) {
	t.Helper()
	if (err == nil) != (want == api.OK) || api.Code(err) != want {
		t.Errorf("%.300s: %v, want %d", what, err, want)
	}
	if err == nil {
		return
	}
	for _, e := range errnos {
		if errors.Is(err, e) != (e == api.Code(err)) {
			t.Errorf("%.300s: %v is %d: %v", what, err, e, errors.Is(err, e))
		}
	}
	var e api.Errno
	if !errors.As(err, &e) || e != api.Code(err) {
		t.Errorf("%.300s: %v wraps %d", what, err, e)
	}
	if err.Error() == "" {
		t.Errorf("%.300s: an error without words", what)
	}
}

func parsed(t *testing.T, text string) api.Query {
	t.Helper()
	q, code, at := syntax.Parse(text)
	if code != api.OK {
		t.Fatalf("Parse(%q): %d at %d", text, code, at)
	}
	return q
}

func parsedExpr(t *testing.T, text string) api.Expr {
	t.Helper()
	e, code, at := syntax.ParseExpr(text)
	if code != api.OK {
		t.Fatalf("ParseExpr(%q): %d at %d", text, code, at)
	}
	return e
}

// checks: Check of the text's tree must answer that scope.
func checks(t *testing.T, text string, want api.Scope) {
	t.Helper()
	got, err := check.Check(parsed(t, text))
	told(t, text, err, api.OK)
	same(t, text, got, want)
}

// fine: Check of each text's tree must answer no error.
func fine(t *testing.T, texts ...string) {
	t.Helper()
	for _, text := range texts {
		_, err := check.Check(parsed(t, text))
		told(t, text, err, api.OK)
	}
}

// fails: Check of each text's tree must answer that error, and a zero scope.
func fails(t *testing.T, want api.Errno, texts ...string) {
	t.Helper()
	for _, text := range texts {
		refused(t, text, parsed(t, text), want)
	}
}

// refused: Check must answer that error, and a zero scope.
func refused(t *testing.T, what string, q api.Query, want api.Errno) {
	t.Helper()
	got, err := check.Check(q)
	told(t, what, err, want)
	same(t, what, got, api.Scope{})
}

// vars: a node, an edge, and what may be anything.
func vars() []api.Bound { return []api.Bound{nodeVar("n"), edgeVar("e"), anyVar("v")} }

// kinds: Kinds of the text's tree, with n a node, e an edge, and v anything, must answer that.
func kinds(t *testing.T, text string, want int) {
	t.Helper()
	got, err := check.Kinds(parsedExpr(t, text), vars())
	told(t, text, err, api.OK)
	same(t, text, got, want)
}

// failsKinds: Kinds must answer that error and 0.
func failsKinds(t *testing.T, what string, e api.Expr, vars []api.Bound, want api.Errno) {
	t.Helper()
	got, err := check.Kinds(e, vars)
	told(t, what, err, want)
	same(t, what, got, 0)
}

// programs: Program must answer that number and that error.
func programs(t *testing.T, what string, qs []api.Query, number int, want api.Errno) {
	t.Helper()
	got, err := check.Program(qs)
	told(t, what, err, want)
	same(t, what, got, number)
}
