package syntax_test

import (
	"fmt"
	"reflect"
	"strings"
	"testing"

	"trellis/api"
	"trellis/syntax"
)

// TestP1002AnyText: whatever the text is, each call ends with an error at a place of the text, or without one.
func TestP1002AnyText(t *testing.T) {
	d := newDraw(1002)
	for range 20000 {
		var b strings.Builder
		for range d.Intn(12) {
			if d.Intn(6) == 0 {
				b.WriteByte(byte(d.Intn(256)))
			} else {
				b.WriteString(pick(d, scraps...) + pick(d, "", " "))
			}
		}
		text := b.String()
		for _, e := range entries {
			got, code, at := e.read(text)
			again, code2, at2 := e.read(text)
			same(t, text, []any{again, code2, at2}, []any{got, code, at})
			switch {
			case code == api.OK:
				same(t, text, at, 0)
			case code < api.ErrChar || code > api.ErrMany || at < 0 || at > len(text):
				t.Errorf("%q: %d at %d", text, code, at)
			default:
				zero(t, text, got)
			}
		}
		if t.Failed() {
			return
		}
	}
}

// TestP1002DeepTexts: a text may go as deep as its length allows.
func TestP1002DeepTexts(t *testing.T) {
	for _, one := range []string{"(", "-", "not ", "re(", "case when ", "case when 1 then ", "case when 1 then 2 else ", "a in [", "a + (", "coalesce(1, ", "- (", "not (", "count(distinct ", "a = (", "cpx(1, "} {
		count := (api.MaxText - 8) / len(one)
		text := strings.Repeat(one, count)
		failsExpr(t, text, api.ErrSyntax, len(text))
		failsExpr(t, text+"}", api.ErrSyntax, len(text))
		fails(t, "return "+text+"}", api.ErrSyntax, 7+len(text))
	}
	failsExpr(t, strings.Repeat("-", 4095)+"a", api.ErrDeep, 0)
	failsExpr(t, row(1023, "1", " + "), api.ErrDeep, 0)
	failsExpr(t, strings.Repeat("not ", 1000)+"a", api.ErrDeep, 0)
	failsExpr(t, strings.Repeat("re(", 1000)+"a"+strings.Repeat(")", 1000), api.ErrDeep, 0)
	failsProgram(t, strings.Repeat(";", 4096), api.ErrSyntax, 0)
	failsProgram(t, strings.Repeat("match ", 600), api.ErrSyntax, 6)
}

// TestP1002Rings: a tree that has itself among its parts, or parts that share memory, is soon done with.
func TestP1002Rings(t *testing.T) {
	ring := []api.Expr{un(api.UNot, name("a"))}
	ring[0].Kids = ring
	untold(t, ring[0], api.ErrForm)
	both := make([]api.Expr, 2)
	both[0], both[1] = bin(api.BAdd, num(1), num(1)), bin(api.BAdd, num(1), num(1))
	both[0].Kids, both[1].Kids = both, both
	untold(t, both[0], api.ErrForm)
	unprinted(t, query(gives(part(nil), item(both[0], ""))), api.ErrForm)
	shared := name("a")
	for range 23 {
		shared = in(shared, shared, shared, shared, shared, shared, shared, shared, shared)
	}
	untold(t, shared, api.ErrForm)
	items := make([]api.Item, 12)
	for i := range items {
		items[i] = item(shared, "a")
	}
	p := gives(part(nil), items...)
	unprinted(t, query(p, p, p, p), api.ErrForm)
	four := query(p, p, p, p)
	text, code := syntax.PrintProgram([]api.Query{four, four, four, four})
	same(t, "PrintProgram", []any{text, code}, []any{"", api.ErrForm})
}

// TestP1002WideTrees: lists of any length.
func TestP1002WideTrees(t *testing.T) {
	const many = 1 << 17
	untold(t, in(make([]api.Expr, many)...), api.ErrForm)
	untold(t, cases(make([]api.Expr, many+1)...), api.ErrForm)
	unprinted(t, query(make([]api.Part, many)...), api.ErrForm)
	unprinted(t, query(part(make([]api.Match, many))), api.ErrForm)
	unprinted(t, query(part(nil, make([]api.Action, many)...)), api.ErrForm)
	unprinted(t, query(gives(part(nil), make([]api.Item, many)...)), api.ErrForm)
	unprinted(t, query(part(matches(match(make([]api.Path, many)...)))), api.ErrForm)
	unprinted(t, query(part(matches(match(path(node("", ""), make([]api.HopPat, many)...))))), api.ErrForm)
	unprinted(t, query(part(matches(match(path(node("", "", make([]api.Pair, many)...)))))), api.ErrForm)
	text, code := syntax.PrintProgram(make([]api.Query, many))
	same(t, "PrintProgram", []any{text, code}, []any{"", api.ErrForm})
	untold(t, name(strings.Repeat("a", many)), api.ErrForm)
	untold(t, str(strings.Repeat("a", many)), api.ErrForm)
	failsLex(t, strings.Repeat("a", many), api.ErrLong, 0)
}

// TestP1002AnyTree: drawn trees that are spoilt again and again.
func TestP1002AnyTree(t *testing.T) {
	for seed := range int64(1000) {
		d := newDraw(seed)
		e, q := d.expr(4), d.query()
		for range 1 + d.Intn(8) {
			d.spoil(&e)
			d.spoil(&q)
		}
		wantE, wantQ := fmt.Sprintf("%+v", e), fmt.Sprintf("%+v", q)
		text, code := syntax.PrintExpr(e)
		again, code2 := syntax.PrintExpr(e)
		same(t, "PrintExpr", []any{again, code2}, []any{text, code})
		text, code = syntax.Print(q)
		again, code2 = syntax.Print(q)
		same(t, "Print", []any{again, code2}, []any{text, code})
		if code != api.OK && text != "" {
			t.Errorf("%q beside %d", text, code)
		}
		again, code2 = syntax.PrintProgram([]api.Query{q})
		same(t, "PrintProgram", []any{again, code2}, []any{text, code})
		same(t, "the tree that was handed in", fmt.Sprintf("%+v %+v", e, q), wantE+" "+wantQ)
		if t.Failed() {
			t.Fatalf("seed %d", seed)
		}
	}
}

// filled: writes into the spare room of every list in the tree.
func filled(v reflect.Value) {
	switch v.Kind() {
	case reflect.Struct:
		for i := range v.NumField() {
			filled(v.Field(i))
		}
	case reflect.Slice:
		for i := range v.Len() {
			filled(v.Index(i))
		}
		if v.Cap() > v.Len() {
			all := v.Slice(0, v.Cap())
			for i := v.Len(); i < v.Cap(); i++ {
				wreck(all.Index(i))
			}
		}
	}
}

// wreck: writes another value into each field.
func wreck(v reflect.Value) {
	switch v.Kind() {
	case reflect.Struct:
		for i := range v.NumField() {
			wreck(v.Field(i))
		}
	case reflect.Int, reflect.Int64:
		v.SetInt(v.Int() + 77)
	case reflect.String:
		v.SetString("wreck")
	case reflect.Bool:
		v.SetBool(!v.Bool())
	case reflect.Slice:
		v.Set(reflect.Zero(v.Type()))
	}
}

// apart: puts the start of each list with elements into the map, and tells a start that is there already.
func apart(t *testing.T, v reflect.Value, seen map[uintptr]bool) {
	switch v.Kind() {
	case reflect.Struct:
		for i := range v.NumField() {
			apart(t, v.Field(i), seen)
		}
	case reflect.Slice:
		if v.Cap() > 0 {
			if seen[v.Pointer()] {
				t.Errorf("two lists share memory: %+v", v)
			}
			seen[v.Pointer()] = true
		}
		for i := range v.Len() {
			apart(t, v.Index(i), seen)
		}
	}
}

// TestP1002NewMemory: no two lists of answers share memory, nor does the spare room of one lie in another; what the caller writes is seen by nobody.
func TestP1002NewMemory(t *testing.T) {
	texts := []string{
		"match (a:x {k: 1, j: 2})-[r:t*1..2 {k: 1, l: a in [1, 2, 3]}]->(b), (c) where a.k in [1, 2] set a.k = 1, b.k = coalesce(1, 2, 3) delete a, b detach delete c, d with a, b.k as c order by 1, c limit 3 where a return case when a then 1 when b then 2 end, count(*), sum(a.k) order by 1",
		"create (a), (b)-->(c)<--(d) merge (a {k: 1}), (b {k: 2, j: 3}); return 1, 2, 3; abort; match (a) optional match (b) return a, b order by 1, 2",
	}
	seen := map[uintptr]bool{}
	var kept []any // so that no memory is used again
	for _, text := range texts {
		first, code, _ := syntax.Program(text)
		same(t, text, code, api.OK)
		second, _, _ := syntax.Program(text)
		kept = append(kept, first, second)
		apart(t, reflect.ValueOf(first), seen)
		apart(t, reflect.ValueOf(second), seen)
		filled(reflect.ValueOf(first))
		same(t, "beside filled lists", first, second)
		for i := range first {
			wreck(reflect.ValueOf(&first[i]).Elem())
		}
		third, _, _ := syntax.Program(text)
		same(t, "behind wrecked lists", third, second)
		tokens, _, _ := syntax.Lex(text)
		others, _, _ := syntax.Lex(text)
		for i := range tokens {
			tokens[i] = api.Token{}
		}
		third3, _, _ := syntax.Lex(text)
		same(t, "tokens", third3, others)
	}
	if len(kept) != 4 {
		t.Error("lost")
	}
}

// TestP1002Room: the spare room of lists that are handed in is not touched.
func TestP1002Room(t *testing.T) {
	q, _, _ := syntax.Parse("match (a {k: 1})-->(b) where a.k in [1, 2] set a.k = 1 return a, b order by 1")
	roomy := roomyOf(reflect.ValueOf(q), 2).Interface().(api.Query)
	same(t, "with room", roomy, q)
	want := fmt.Sprintf("%+v", rooms(reflect.ValueOf(roomy)))
	prints(t, roomy, "match (a {k: 1})-[]->(b) where a.k in [1, 2] set a.k = 1 return a, b order by 1")
	same(t, "the rooms", fmt.Sprintf("%+v", rooms(reflect.ValueOf(roomy))), want)
}

// roomyOf: a copy in which no list is nil, and each has room for so many more, with something in it.
func roomyOf(v reflect.Value, room int) reflect.Value {
	out := reflect.New(v.Type()).Elem()
	out.Set(v)
	switch v.Kind() {
	case reflect.Struct:
		for i := range v.NumField() {
			out.Field(i).Set(roomyOf(v.Field(i), room))
		}
	case reflect.Slice:
		list := reflect.MakeSlice(v.Type(), v.Len()+room, v.Len()+room)
		for i := range v.Len() {
			list.Index(i).Set(roomyOf(v.Index(i), room))
		}
		for i := v.Len(); i < list.Len(); i++ {
			wreck(list.Index(i))
		}
		out.Set(list.Slice(0, v.Len()))
	}
	return out
}

// rooms: what lies in the room of each list.
func rooms(v reflect.Value) []any {
	var out []any
	switch v.Kind() {
	case reflect.Struct:
		for i := range v.NumField() {
			out = append(out, rooms(v.Field(i))...)
		}
	case reflect.Slice:
		for i := range v.Len() {
			out = append(out, rooms(v.Index(i))...)
		}
		out = append(out, v.Slice(v.Len(), v.Cap()).Interface())
	}
	return out
}

// TestP1002NilOrEmpty: lists nil or empty are the same to all that print.
func TestP1002NilOrEmpty(t *testing.T) {
	q, _, _ := syntax.Parse("match (a) where a = 1 delete a with count(*) as n return n")
	empty := roomyOf(reflect.ValueOf(q), 0).Interface().(api.Query)
	prints(t, empty, "match (a) where a = 1 delete a with count(*) as n return n")
	tells(t, api.Expr{Op: api.EVar, Name: "a", Kids: []api.Expr{}}, "a")
}
