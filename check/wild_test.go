package check_test

import (
	"errors"
	"fmt"
	"reflect"
	"strconv"
	"strings"
	"sync"
	"testing"

	"trellis/api"
	"trellis/check"
	"trellis/syntax"
)

// zero: with an error all else must be zero.
func zero(t *testing.T, what string, got any) {
	t.Helper()
	if v := reflect.ValueOf(got); !alikeIn(v, reflect.Zero(v.Type())) {
		t.Errorf("%s answers %+v beside an error", what, got)
	}
}

func TestP1101Nothing(t *testing.T) {
	refused(t, "a zero query", api.Query{}, api.ErrForm)
	refused(t, "an empty query", api.Query{Parts: []api.Part{}}, api.ErrForm)
	refused(t, "a zero part", query(api.Part{}), api.ErrForm)
	failsKinds(t, "a zero expression", api.Expr{}, nil, api.ErrForm)
	failsKinds(t, "zero variables", num(1), make([]api.Bound, 3), api.ErrArg)
	programs(t, "nothing", nil, 0, api.OK)
}

// TestP1101AnyTree: drawn trees that are spoilt again and again: each call ends, says the same twice, and changes nothing.
func TestP1101AnyTree(t *testing.T) {
	for seed := range int64(1500) {
		d := newDraw(seed, 40)
		q := d.query()
		e := d.expr(beside, 4)
		vars := append(vars(), d.vars...)
		for range 1 + d.Intn(6) {
			d.spoil(&q)
			d.spoil(&e)
			d.spoil(&vars)
		}
		want := fmt.Sprintf("%+v %+v %+v", q, e, vars)
		for _, c := range []func() (any, error){
			func() (any, error) { got, err := check.Check(q); return got, err },
			func() (any, error) { got, err := check.Kinds(e, vars); return got, err },
		} {
			got, err := c()
			again, err2 := c()
			told(t, "again", err2, api.Code(err))
			same(t, "again", again, got)
			if err != nil {
				zero(t, "a drawn tree", got)
			}
			if api.Code(err) == -1 {
				t.Errorf("an error without a number: %v", err)
			}
		}
		_, err := check.Check(q)
		programs(t, "a drawn tree", []api.Query{q}, 0, api.Code(err))
		same(t, "what was handed in", fmt.Sprintf("%+v %+v %+v", q, e, vars), want)
		if t.Failed() {
			t.Fatalf("seed %d", seed)
		}
	}
}

// TestP1101Rings: a tree that has itself among its parts, or parts that share memory, is soon done with.
func TestP1101Rings(t *testing.T) {
	ring := []api.Expr{un(api.UNot, name("a"))}
	ring[0].Kids = ring
	both := make([]api.Expr, 2)
	both[0], both[1] = bin(api.BAdd, num(1), num(1)), bin(api.BAdd, num(1), num(1))
	both[0].Kids, both[1].Kids = both, both
	shared := name("a")
	for range 23 {
		shared = in(shared, shared, shared, shared, shared, shared, shared, shared, shared)
	}
	for _, e := range []api.Expr{ring[0], both[0], shared} {
		failsKinds(t, "a ring", e, []api.Bound{anyVar("a")}, api.ErrForm)
		refused(t, "a ring", returns(e, "a"), api.ErrForm)
		programs(t, "a ring", []api.Query{returns(num(1), ""), returns(e, "a")}, 1, api.ErrForm)
	}
	wide := num(1)
	for range 3 {
		wide = in(wide, wide, wide, wide, wide, wide, wide, wide, wide)
	}
	wide = call(api.FCoalesce, wide, wide, wide, wide)
	got, err := check.Kinds(wide, nil)
	told(t, "a wide tree", err, api.OK)
	same(t, "a wide tree", got, 2)
}

// TestP1101Wide: lists of any length.
func TestP1101Wide(t *testing.T) {
	const many = 1 << 17
	refused(t, "many parts", query(make([]api.Part, many)...), api.ErrForm)
	refused(t, "many matches", query(part(make([]api.Match, many))), api.ErrForm)
	refused(t, "many actions", query(part(nil, make([]api.Action, many)...)), api.ErrForm)
	refused(t, "many items", query(gives(part(nil), make([]api.Item, many)...)), api.ErrForm)
	failsKinds(t, "many kids", in(make([]api.Expr, many)...), nil, api.ErrForm)
	failsKinds(t, "a long name", name(strings.Repeat("a", many)), nil, api.ErrForm)
	failsKinds(t, "a long variable", num(1), []api.Bound{anyVar(strings.Repeat("a", many))}, api.ErrArg)
	good := returns(num(1), "")
	qs := make([]api.Query, many)
	programs(t, "many queries", qs, 0, api.ErrForm)
	for i := range 16 {
		qs[i] = good
	}
	programs(t, "many queries", qs, 16, api.ErrMany)
	vars := make([]api.Bound, many)
	for i := range vars {
		vars[i] = api.Bound{Name: "v" + strconv.Itoa(i), Kind: []int{0, api.KNode, api.KEdge}[i%3]}
	}
	for _, i := range []int{0, 1, 2, many - 3, many - 2, many - 1} {
		got, err := check.Kinds(name(vars[i].Name), vars)
		told(t, "many variables", err, api.OK)
		same(t, "many variables", got, []int{127, 33, 65}[i%3])
	}
	vars[many-1].Name = "v7"
	failsKinds(t, "a name twice", num(1), vars, api.ErrArg)
}

// TestP1101Greatest: queries as great as they may be.
func TestP1101Greatest(t *testing.T) {
	count := 0
	fresh := func() string { count++; return "v" + strconv.Itoa(count) }
	var vars []api.Bound
	node := func() api.NodePat {
		n := api.NodePat{Var: fresh(), Label: "x"}
		vars = append(vars, nodeVar(n.Var))
		return n
	}
	hop := func() api.HopPat {
		h := api.HopPat{Var: fresh(), Type: "t", Dir: api.DOut, Min: 1, Max: 1}
		vars = append(vars, edgeVar(h.Var))
		h.To = node()
		return h
	}
	var p api.Part
	for range api.MaxMatch {
		var m api.Match
		for range api.MaxPaths {
			way := api.Path{From: node()}
			for range api.MaxHops {
				way.Hops = append(way.Hops, hop())
			}
			m.Paths = append(m.Paths, way)
		}
		p.Match = append(p.Match, m)
	}
	for range api.MaxActions {
		p.Actions = append(p.Actions, api.Action{Kind: api.ASet, Var: vars[len(vars)-1].Name, Key: "k", Val: []api.Expr{prop(vars[0].Name, "k")}})
	}
	p.Skip, p.Limit = -1, -1
	got, err := check.Check(query(p))
	told(t, "a great query", err, api.OK)
	same(t, "a great query", got, api.Scope{Vars: vars, Writes: true})
	same(t, "its variables", len(vars), 4*4*13)
}

// TestP1101NewMemory: what the caller writes into an answer is seen by nobody.
func TestP1101NewMemory(t *testing.T) {
	texts := []string{"match (a)-[e]->(b) return a, e.k as w, 1", "match (a)-[e]->() with a, e as f order by a return a, f, count(*)", "create (a:x)-[e:t]->(b:x)"}
	for _, text := range texts {
		q := parsed(t, text)
		want := fmt.Sprintf("%+v", q)
		first, _ := check.Check(q)
		second, _ := check.Check(q)
		same(t, text, first, second)
		for _, s := range []*api.Scope{&first, &second} {
			for i := range s.Vars[:cap(s.Vars)] {
				s.Vars[:cap(s.Vars)][i] = api.Bound{Name: "wreck", Kind: 77}
			}
			for i := range s.Cols[:cap(s.Cols)] {
				s.Cols[:cap(s.Cols)][i] = "wreck"
			}
			same(t, text+", handed in", fmt.Sprintf("%+v", q), want)
		}
		third, _ := check.Check(q)
		fourth, _ := check.Check(parsed(t, text))
		same(t, text, third, fourth)
		if alike(third.Vars, first.Vars) {
			t.Errorf("%q: a wreck came back", text)
		}
	}
}

// TestP1101Room: the spare room of lists that are handed in is not touched.
func TestP1101Room(t *testing.T) {
	q := parsed(t, "match (a {k: 1})-[e {k: a.k}]->(b) where a.k in [1, 2] set a.k = 1 with a, e as f order by a where a.k return a, f.k order by 1")
	roomy := roomyOf(reflect.ValueOf(q)).Interface().(api.Query)
	want := fmt.Sprintf("%+v", rooms(reflect.ValueOf(roomy)))
	got, err := check.Check(roomy)
	told(t, "with room", err, api.OK)
	same(t, "with room", got, api.Scope{Vars: []api.Bound{nodeVar("a"), edgeVar("f")}, Cols: []string{"a", "f.k"}, Writes: true})
	same(t, "the rooms", fmt.Sprintf("%+v", rooms(reflect.ValueOf(roomy))), want)
	qs := append(make([]api.Query, 0, 4), roomy)
	programs(t, "with room", qs, 0, api.OK)
	same(t, "the room", len(qs[:4][1].Parts), 0)
	list := append(make([]api.Bound, 0, 8), vars()...)
	e := parsedExpr(t, "n.k + 1")
	if _, err := check.Kinds(e, list); err != nil || list[:8][3] != (api.Bound{}) {
		t.Errorf("the room of variables: %v, %v", list[:8], err)
	}
}

// roomyOf: a copy in which each list has room for two more.
func roomyOf(v reflect.Value) reflect.Value {
	out := reflect.New(v.Type()).Elem()
	out.Set(v)
	switch v.Kind() {
	case reflect.Struct:
		for i := range v.NumField() {
			out.Field(i).Set(roomyOf(v.Field(i)))
		}
	case reflect.Slice:
		list := reflect.MakeSlice(v.Type(), v.Len(), v.Len()+2)
		for i := range v.Len() {
			list.Index(i).Set(roomyOf(v.Index(i)))
		}
		out.Set(list)
	}
	return out
}

// rooms: what lies in the room of each list.
func rooms(v reflect.Value) []any {
	var out []any
	switch v.Kind() {
	case reflect.Struct:
		for i := range v.NumField() {
			out = append(out, rooms(v.Field(i))...)
		}
	case reflect.Slice:
		for i := range v.Len() {
			out = append(out, rooms(v.Index(i))...)
		}
		out = append(out, v.Slice(v.Len(), v.Cap()).Interface())
	}
	return out
}

// TestP1101AtOneTime: calls from several goroutines do not meet.
func TestP1101AtOneTime(t *testing.T) {
	q := parsed(t, "match (a)-[e]->(b) where a.k = e.k with a, count(*) as n return a.k, n + 1")
	want, _ := check.Check(q)
	var all sync.WaitGroup
	for range 8 {
		all.Go(func() {
			for range 100 {
				got, err := check.Check(q)
				if err != nil || !alike(got, want) {
					t.Errorf("%+v, %v", got, err)
				}
			}
		})
	}
	all.Wait()
}

// TestP1101Errors: an error is asked by its number in each of the language's ways, also behind Program.
func TestP1101Errors(t *testing.T) {
	for text, want := range map[string]api.Errno{"return x": api.ErrUnbound, "return 1, 1": api.ErrTwice, "match (a)-[a]->() abort": api.ErrMix, "create (:x)-[:t]-(:x)": api.ErrPlace, "create (a)": api.ErrName, "return -'a'": api.ErrKind} {
		q := parsed(t, text)
		_, first := check.Check(q)
		_, second := check.Program([]api.Query{q})
		for _, err := range []error{first, second} {
			for e := api.Errno(-2); e < 200; e++ {
				same(t, fmt.Sprintf("%s is %d", text, e), errors.Is(err, e), e == want)
			}
			var code api.Errno
			same(t, text, errors.As(err, &code), true)
			same(t, text, code, want)
			same(t, text, errors.Unwrap(err) == error(want), true)
		}
	}
	_, err := check.Program([]api.Query{parsed(t, "return 1"), parsed(t, "return abc")})
	if text := err.Error(); !strings.Contains(text, "query 1") || !strings.Contains(text, "abc") || !strings.Contains(text, "110") {
		t.Errorf("an error that does not say what it is of: %s", text)
	}
}

// TestP1101NilOrEmpty: lists nil or empty are the same.
func TestP1101NilOrEmpty(t *testing.T) {
	q := parsed(t, "match (a) delete a with count(*) as n return n")
	full := q
	full.Parts = nil
	for _, p := range q.Parts {
		p.Order, p.Where = []api.OrderKey{}, []api.Expr{}
		if p.Match == nil {
			p.Match = []api.Match{}
		}
		if p.Actions == nil {
			p.Actions = []api.Action{}
		}
		full.Parts = append(full.Parts, p)
	}
	want, _ := check.Check(q)
	got, err := check.Check(full)
	told(t, "empty lists", err, api.OK)
	same(t, "empty lists", got, want)
	if _, code := syntax.Print(full); code != api.OK {
		t.Errorf("Print: %d", code)
	}
}
