package check_test

import (
	"fmt"
	"reflect"
	"slices"
	"testing"

	"trellis/api"
	"trellis/check"
	"trellis/syntax"
	"trellis/value"
)

// shown: the query as its text, or, where it has none, as it is.
func shown(q api.Query) string {
	if text, code := syntax.Print(q); code == api.OK {
		return text
	}
	return fmt.Sprintf("%+v", q)
}

// asBook: Check and Program must answer what the second reckoning does.
func asBook(t *testing.T, q api.Query) api.Errno {
	t.Helper()
	want, code := bookCheck(q)
	got, err := check.Check(q)
	told(t, "a drawn query", err, code)
	same(t, "a drawn query", got, want)
	programs(t, "a drawn query", []api.Query{q}, 0, code)
	return code
}

// enough: each of the answers must have come so often.
func enough(t *testing.T, met map[api.Errno]int, least int, codes ...api.Errno) {
	t.Helper()
	for _, code := range codes {
		if met[code] < least {
			t.Errorf("%d came %d times: %v", code, met[code], met)
		}
	}
}

// TestP1103Book: drawn queries, against the second reckoning.
func TestP1103Book(t *testing.T) {
	met := map[api.Errno]int{}
	for seed := range int64(12000) {
		q := newDraw(seed, 40).query()
		met[asBook(t, q)]++
		if t.Failed() {
			t.Fatalf("seed %d: %s", seed, shown(q))
		}
	}
	enough(t, met, 60, api.OK, api.ErrUnbound, api.ErrTwice, api.ErrMix, api.ErrPlace, api.ErrKind, api.ErrName)
}

// spoilt: the query with one thing changed; mostly so that it still has the form.
func (d *draw) spoilt(q api.Query, seed int64) api.Query {
	d.Seed(seed)
	for {
		out := renamed(q, nil)
		d.spoil(&out)
		if _, code := syntax.Print(out); code != api.ErrForm || d.Intn(20) == 0 {
			return out
		}
	}
}

// TestP1103Spoilt: queries that make sense, with one thing changed.
func TestP1103Spoilt(t *testing.T) {
	met := map[api.Errno]int{}
	for seed := range int64(1200) {
		for n := range 4 {
			d := newDraw(seed, 0)
			q := d.spoilt(d.query(), int64(n))
			met[asBook(t, q)]++
			if t.Failed() {
				t.Fatalf("seed %d, %d: %s", seed, n, shown(q))
			}
		}
	}
	enough(t, met, 15, api.OK, api.ErrForm, api.ErrUnbound, api.ErrTwice, api.ErrMix, api.ErrPlace, api.ErrKind, api.ErrName)
}

// TestP1102Book: drawn expressions, against the second reckoning.
func TestP1102Book(t *testing.T) {
	met := map[api.Errno]int{}
	for seed := range int64(12000) {
		d := newDraw(seed, 60)
		d.vars = pick(d, vars(), []api.Bound{anyVar("b"), nodeVar("a"), nodeVar("re"), edgeVar("c")}, nil)
		e := d.expr(d.Intn(2), 1+d.Intn(5))
		if d.Intn(8) == 0 {
			d.spoil(&e)
		}
		want, code := bookKinds(e, d.vars)
		got, err := check.Kinds(e, d.vars)
		told(t, "a drawn expression", err, code)
		same(t, "a drawn expression", got, want)
		met[code]++
		if t.Failed() {
			t.Fatalf("seed %d: %+v, %v", seed, e, d.vars)
		}
	}
	enough(t, met, 10, api.OK, api.ErrForm, api.ErrUnbound, api.ErrMix, api.ErrPlace)
}

// literalExpr: without variables, properties, calls that ask a graph, and aggregates.
func (d *draw) literalExpr(depth int) api.Expr {
	if depth <= 1 || d.Intn(5) == 0 {
		return d.literal()
	}
	kid := func() api.Expr { return d.literalExpr(depth - 1) }
	switch d.Intn(8) {
	case 0:
		return un(pick(d, api.UNeg, api.UNot), kid())
	case 1, 2:
		sub := 1 + d.Intn(18)
		if sub == api.BCpx {
			return call(api.FCpx, kid(), kid())
		}
		return bin(sub, kid(), kid())
	case 3:
		return isNull(1+d.Intn(2), kid())
	case 4:
		return in(some(d, 1, 4, kid)...)
	case 5:
		return cases(append(some(d, 2, 2, kid), some(d, 1, 1, kid)...)...)
	case 6:
		return call(api.FCoalesce, some(d, 1, 3, kid)...)
	}
	return call(1+d.Intn(6), kid())
}

// worth: the value of a literal expression, by the operations of package value.
func worth(e api.Expr) (api.Val, api.Errno) {
	switch e.Op {
	case api.ELit:
		return e.Val, api.OK
	case api.ECase:
		return worthOfCase(e.Kids)
	}
	var kids []api.Val
	for _, kid := range e.Kids {
		v, code := worth(kid)
		if code != api.OK {
			return api.Val{}, code
		}
		kids = append(kids, v)
		if e.Op == api.ECall && e.Sub == api.FCoalesce && v.Kind != api.KNull {
			return v, api.OK
		}
	}
	switch e.Op {
	case api.EUn:
		return value.Unary(e.Sub, kids[0])
	case api.EBin:
		return value.Binary(e.Sub, kids[0], kids[1])
	case api.ENull:
		if (kids[0].Kind == api.KNull) == (e.Sub == 1) {
			return truth().Val, api.OK
		}
		return api.Val{Kind: api.KBool}, api.OK
	case api.EIn:
		return worthOfIn(kids[0], kids[1:])
	}
	switch e.Sub {
	case api.FCpx:
		return value.Binary(api.BCpx, kids[0], kids[1])
	case api.FCoalesce:
		return api.Val{}, api.OK
	}
	op := map[int]int{api.FRe: api.URe, api.FIm: api.UIm, api.FConj: api.UConj, api.FNorm: api.UNorm, api.FLen: api.ULen, api.FAbs: api.UAbs}[e.Sub]
	return value.Unary(op, kids[0])
}

func worthOfIn(x api.Val, list []api.Val) (api.Val, api.Errno) {
	out := api.Val{Kind: api.KBool}
	for _, y := range list {
		v, code := value.Binary(api.BEq, x, y)
		switch {
		case code != api.OK:
			return api.Val{}, code
		case v == truth().Val:
			return v, code
		case v.Kind == api.KNull:
			out = v
		}
	}
	return out, api.OK
}

func worthOfCase(kids []api.Expr) (api.Val, api.Errno) {
	for ; len(kids) > 1; kids = kids[2:] {
		v, code := worth(kids[0])
		switch {
		case code != api.OK:
			return v, code
		case v == truth().Val:
			return worth(kids[1])
		case v.Kind != api.KNull && v.Kind != api.KBool:
			return api.Val{}, api.ErrKind
		}
	}
	return worth(kids[0])
}

// TestP1105Kept: what a literal expression is worth is of one of its kinds; where it has none, it has no worth.
func TestP1105Kept(t *testing.T) {
	none, some := 0, 0
	for seed := range int64(40000) {
		d := newDraw(seed, 0)
		e := d.literalExpr(2 + d.Intn(3))
		kinds, err := check.Kinds(e, nil)
		told(t, "literal expression", err, api.OK)
		v, code := worth(e)
		if code == api.OK {
			some++
		}
		if kinds == 0 {
			none++
		}
		if code == api.OK && kinds>>v.Kind&1 == 0 {
			text, _ := syntax.PrintExpr(e)
			t.Fatalf("%s is worth %s; its kinds are %d", text, value.Print(v), kinds)
		}
	}
	if none < 1000 || some < 1000 {
		t.Errorf("%d without kinds, %d with a worth", none, some)
	}
}

// TestP1105Operations: of an operation's kinds each one is met by some values, and no other one.
func TestP1105Operations(t *testing.T) {
	literals := [][]api.Expr{{null()}, {truth(), val(api.Val{Kind: api.KBool})}, {num(1), num(0), num(-5)}, {imag(1), imag(0), imag(-5)}, {str(""), str("a")}}
	forms := []func(x, y api.Expr) api.Expr{}
	for sub := range 19 {
		if sub > 0 && sub != api.BCpx {
			forms = append(forms, func(x, y api.Expr) api.Expr { return bin(sub, x, y) })
		}
	}
	for sub := 1; sub <= 2; sub++ {
		forms = append(forms, func(x, _ api.Expr) api.Expr { return un(sub, x) }, func(x, _ api.Expr) api.Expr { return isNull(sub, x) })
	}
	for sub := api.FRe; sub <= api.FAbs; sub++ {
		forms = append(forms, func(x, _ api.Expr) api.Expr { return call(sub, x) })
	}
	forms = append(forms, func(x, y api.Expr) api.Expr { return call(api.FCpx, x, y) }, func(x, y api.Expr) api.Expr { return call(api.FCoalesce, x, y) })
	for _, form := range forms {
		for _, xs := range literals {
			for _, ys := range literals {
				want, kinds, text := 0, 0, ""
				for _, x := range xs {
					for _, y := range ys {
						kinds, _ = check.Kinds(form(x, y), nil)
						text, _ = syntax.PrintExpr(form(x, y))
						if v, code := worth(form(x, y)); code == api.OK {
							want |= 1 << v.Kind
						}
					}
				}
				same(t, "the kinds of "+text+" and the like", kinds, want)
			}
		}
	}
}

// TestP1106Again: what is printed and read again tells the same.
func TestP1106Again(t *testing.T) {
	met := map[api.Errno]int{}
	for seed := range int64(6000) {
		q := newDraw(seed, 40).query()
		text, code := syntax.Print(q)
		if code != api.OK {
			t.Fatalf("Print: %d", code)
		}
		want, err := check.Check(q)
		got, err2 := check.Check(parsed(t, text))
		told(t, text, err2, api.Code(err))
		same(t, text, got, want)
		met[api.Code(err)]++
	}
	enough(t, met, 40, api.OK, api.ErrUnbound, api.ErrTwice, api.ErrMix, api.ErrPlace, api.ErrKind, api.ErrName)
}

// renamed: the query with other names for its variables.
func renamed(q api.Query, to map[string]string) api.Query {
	out := reflect.New(reflect.TypeOf(q)).Elem()
	var walk func(into, from reflect.Value, isName bool)
	walk = func(into, from reflect.Value, isName bool) {
		switch from.Kind() {
		case reflect.Slice:
			into.Set(reflect.MakeSlice(from.Type(), from.Len(), from.Len()))
			for i := range from.Len() {
				walk(into.Index(i), from.Index(i), false)
			}
		case reflect.Struct:
			e, isExpr := from.Interface().(api.Expr)
			for i := range from.NumField() {
				field := from.Type().Field(i).Name
				walk(into.Field(i), from.Field(i), field == "Var" || field == "As" || field == "Name" && (!isExpr || e.Op == api.EVar || e.Op == api.EProp))
			}
		default:
			into.Set(from)
			if other, there := to[from.String()]; isName && there {
				into.SetString(other)
			}
		}
	}
	walk(out, reflect.ValueOf(q), false)
	return out.Interface().(api.Query)
}

// TestP1107Names: with other names of the same lengths the same is told, with these names.
func TestP1107Names(t *testing.T) {
	met := map[api.Errno]int{}
	for seed := range int64(6000) {
		d := newDraw(seed, 40)
		q := d.query()
		others := [][]string{{"a", "b", "c", "d", "e", "f", "g", "h", "i", "z"}, {"re", "n1", "im", "zz", "ab", "ba"}, {"x2345678", "coalesce", "abcdefgh", "zzzzzzzz", "a0000000"}}
		to := map[string]string{}
		for _, names := range others {
			for i, j := range d.Perm(len(names)) {
				to[names[i]] = names[j]
			}
		}
		other := renamed(q, to)
		want, err := check.Check(q)
		if err == nil && len(want.Cols) > 0 {
			for i, item := range other.Parts[len(q.Parts)-1].Items {
				want.Cols[i] = item.As
				if item.As == "" {
					want.Cols[i], _ = syntax.PrintExpr(item.Expr)
				}
			}
		}
		for i, v := range want.Vars {
			want.Vars[i].Name = to[v.Name]
		}
		got, err2 := check.Check(other)
		told(t, shown(other), err2, api.Code(err))
		same(t, shown(other), got, want)
		met[api.Code(err)]++
	}
	enough(t, met, 40, api.OK, api.ErrUnbound, api.ErrTwice, api.ErrMix, api.ErrPlace, api.ErrKind, api.ErrName)
}

// TestP1104Book: drawn programs: the first query that makes no sense is told, of the first sixteen.
func TestP1104Book(t *testing.T) {
	for seed := range int64(500) {
		d := newDraw(seed, 500)
		var qs []api.Query
		number, code := 0, api.OK
		for i := range d.Intn(20) {
			q := d.query()
			if _, why := bookCheck(q); why != api.OK && code == api.OK && i < 16 {
				number, code = i, why
			}
			qs = append(qs, q)
		}
		if len(qs) > 16 && code == api.OK {
			number, code = 16, api.ErrMany
		}
		programs(t, fmt.Sprintf("seed %d", seed), qs, number, code)
	}
}

// TestP1104Numbers: a fault at each place of a program.
func TestP1104Numbers(t *testing.T) {
	good, unbound, twice := parsed(t, "return 1"), parsed(t, "return x"), parsed(t, "return 1, 1")
	programs(t, "no queries", nil, 0, api.OK)
	programs(t, "no queries", []api.Query{}, 0, api.OK)
	for n := 1; n <= 40; n++ {
		qs := slices.Repeat([]api.Query{good}, n)
		what := fmt.Sprintf("%d queries", n)
		if n <= 16 {
			programs(t, what, qs, 0, api.OK)
		} else {
			programs(t, what, qs, 16, api.ErrMany)
		}
		for i := range n {
			one := slices.Clone(qs)
			one[i] = unbound
			two := slices.Clone(one)
			two[n-1] = twice
			what := fmt.Sprintf("%d queries, fault at %d", n, i)
			switch {
			case i >= 16:
				programs(t, what, one, 16, api.ErrMany)
				programs(t, what, two, 16, api.ErrMany)
			default:
				programs(t, what, one, i, api.ErrUnbound)
				if i < n-1 {
					programs(t, what, two, i, api.ErrUnbound)
				}
			}
		}
	}
	programs(t, "a query without parts", []api.Query{good, {}, unbound}, 1, api.ErrForm)
	programs(t, "a zero program", make([]api.Query, 17), 0, api.ErrForm)
}
