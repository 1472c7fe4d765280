package machine_test

import (
	"reflect"
	"sync"
	"testing"

	"trellis/api"
	"trellis/machine"
)

// roomy: a copy of the tree in which each list has spare room, with elements of the first one's kind in it.
func roomy(v reflect.Value) reflect.Value {
	out := reflect.New(v.Type()).Elem()
	out.Set(v)
	switch v.Kind() {
	case reflect.Struct:
		for i := range v.NumField() {
			out.Field(i).Set(roomy(v.Field(i)))
		}
	case reflect.Slice:
		list := reflect.MakeSlice(v.Type(), v.Len(), v.Len()+3)
		for i := range v.Len() {
			list.Index(i).Set(roomy(v.Index(i)))
		}
		spare := list.Slice(0, list.Cap())
		for i := v.Len(); i < spare.Len(); i++ {
			scribble(spare.Index(i))
		}
		out.Set(list)
	}
	return out
}

// scribble: writes over all that is there, and over the spare room of lists.
func scribble(v reflect.Value) {
	switch v.Kind() {
	case reflect.Struct:
		for i := range v.NumField() {
			scribble(v.Field(i))
		}
	case reflect.Slice:
		all := v.Slice(0, v.Cap())
		for i := range all.Len() {
			scribble(all.Index(i))
		}
	case reflect.Int, reflect.Int64:
		v.SetInt(77)
	case reflect.String:
		v.SetString("scribble")
	case reflect.Bool:
		v.SetBool(true)
	}
}

// unlike: does the tree, or the spare room of one of its lists, differ from the copy?
func unlike(a, b reflect.Value) bool {
	switch a.Kind() {
	case reflect.Struct:
		for i := range a.NumField() {
			if unlike(a.Field(i), b.Field(i)) {
				return true
			}
		}
		return false
	case reflect.Slice:
		if a.Len() != b.Len() || a.Cap() != b.Cap() {
			return true
		}
		x, y := a.Slice(0, a.Cap()), b.Slice(0, b.Cap())
		for i := range x.Len() {
			if unlike(x.Index(i), y.Index(i)) {
				return true
			}
		}
		return false
	}
	return !a.Equal(b)
}

func copied[T any](of T) T { return roomy(reflect.ValueOf(of)).Interface().(T) }

// TestP1301Kept: neither Compile nor Run changes the tree; and what becomes of it later does not matter to the code.
func TestP1301Kept(t *testing.T) {
	for _, text := range touring {
		q, keep := copied(parsed(t, text)), copied(parsed(t, text))
		c, code := machine.Compile(q)
		if code != api.OK {
			t.Fatalf("%s: %d", text, code)
		}
		_, s := over(t, bush())
		want := told(c.Run(s, api.MaxFuel))
		cols := c.Cols()
		if unlike(reflect.ValueOf(q), reflect.ValueOf(keep)) {
			t.Errorf("%s: the tree has changed", text)
		}
		scribble(reflect.ValueOf(&q).Elem())
		_, s = over(t, bush())
		same(t, text, told(c.Run(s, api.MaxFuel)), want)
		same(t, text, c.Cols(), cols)
	}
}

// TestP1301EvalKept: Eval changes nothing of what it is given.
func TestP1301EvalKept(t *testing.T) {
	for _, text := range []string{"a.k + v", "coalesce(a.nix, v in [1, 2, a.k])", "case when v > 1 then deg(a, t) else label(a) end", "cpx(v, 2) = 1", "a.k / 0"} {
		_, s := over(t, bush())
		e, vars, vals := copied(parsedExpr(t, text)), copied([]api.Bound{{Name: "a", Kind: api.KNode}, {Name: "v"}}), copied([]api.Val{nodeAt(1), num(2)})
		f, more, keep := copied(e), copied(vars), copied(vals)
		machine.Eval(e, vars, vals, s)
		if unlike(reflect.ValueOf(e), reflect.ValueOf(f)) || unlike(reflect.ValueOf(vars), reflect.ValueOf(more)) || unlike(reflect.ValueOf(vals), reflect.ValueOf(keep)) {
			t.Errorf("%s: what was handed in has changed", text)
		}
	}
}

// TestP1301NewMemory: what the caller writes into an answer, or appends to a list of it, is seen by nobody.
func TestP1301NewMemory(t *testing.T) {
	for _, text := range append(touring, "match (a) return a, a.k", "match (a) return label(a), a.k, count(*), max(a.k)", "match (a) return distinct a, 1 as one order by a desc skip 1") {
		c := compiled(t, text)
		_, s := over(t, bush())
		_, u := over(t, bush())
		first, _ := c.Run(s, api.MaxFuel)
		second, _ := c.Run(u, api.MaxFuel)
		want := told(second, api.OK)
		delta := u.Delta()
		cols := c.Cols()
		scribble(reflect.ValueOf(&first).Elem())
		same(t, text+": another answer", told(second, api.OK), want)
		same(t, text+": its columns", second.Cols, cols)
		for i := range second.Rows {
			for j, row := range second.Rows {
				if i != j {
					scribble(reflect.ValueOf(row[len(row):cap(row)]))
				}
			}
		}
		same(t, text+": other rows", told(second, api.OK), want)
		scribble(reflect.ValueOf(&cols).Elem())
		same(t, text+": the columns", c.Cols(), second.Cols)
		scribble(reflect.ValueOf(&second).Elem())
		same(t, text+": the write set", u.Delta(), delta)
		_, s = over(t, bush())
		same(t, text+": a later run", told(c.Run(s, api.MaxFuel)), want)
	}
}

// TestP1301Together: one code, run over many spaces at one time.
func TestP1301Together(t *testing.T) {
	for _, text := range touring {
		c := compiled(t, text)
		_, s := over(t, bush())
		want := told(c.Run(s, api.MaxFuel))
		got := make([]string, 8)
		var all sync.WaitGroup
		for i := range got {
			_, s := over(t, bush())
			all.Go(func() { got[i] = told(c.Run(s, api.MaxFuel)) })
		}
		all.Wait()
		for _, one := range got {
			same(t, text, one, want)
		}
	}
}
