package machine_test

import (
	"math"
	"reflect"
	"testing"

	"trellis/api"
	"trellis/check"
	"trellis/machine"
	"trellis/space"
	"trellis/value"
)

// spoil: changes something somewhere in a tree.
func (d *draw) spoil(v reflect.Value) {
	switch v.Kind() {
	case reflect.Struct:
		d.spoil(v.Field(d.Intn(v.NumField())))
	case reflect.Slice:
		if v.Len() > 0 && !d.one(6) {
			d.spoil(v.Index(d.Intn(v.Len())))
			return
		}
		list := reflect.AppendSlice(reflect.Zero(v.Type()), v.Slice(0, d.Intn(v.Len()+1)))
		for range d.Intn(3) {
			more := reflect.Zero(v.Type().Elem())
			if v.Len() > 0 && d.one(2) {
				more = v.Index(d.Intn(v.Len()))
			}
			list = reflect.Append(list, more)
		}
		v.Set(list)
	case reflect.Int, reflect.Int64:
		v.SetInt(pick(d, v.Int()+1, v.Int()-1, int64(d.Intn(14)), int64(d.Intn(7)), -1, 0, math.MaxInt64, math.MinInt64))
	case reflect.String:
		v.SetString(pick(d, "a", "b", "e", "k", "w", "x", "t", "p", "q", "", "match", "A", "abcdefghi"))
	case reflect.Bool:
		v.SetBool(!v.Bool())
	}
}

// TestP1301Spoilt: of a tree in which something is changed Compile says ErrCode just where Check finds fault; what it takes means what the second reckoning says.
func TestP1301Spoilt(t *testing.T) {
	taken := 0
	for seed := range int64(6000) {
		x, sound := trialOf(t, seed%1500)
		if !sound {
			continue
		}
		d := newDraw(seed + 4000000)
		for range pick(d, 1, 1, 2, 5) {
			d.spoil(reflect.ValueOf(&x.q).Elem())
		}
		c, code := machine.Compile(x.q)
		if _, err := check.Check(x.q); (err != nil) != (code == api.ErrCode) || (c == nil) != (code != api.OK) {
			t.Errorf("%s, spoilt: %d, Check: %v", x.text, code, err)
		}
		if code == api.OK {
			taken++
			x.code, x.text = c, x.text+" (spoilt)"
			x.agrees(t, 500, -1, api.OK)
		}
	}
	if taken < 500 {
		t.Errorf("%d of the spoilt trees still make sense: too few", taken)
	}
}

// TestP1301SpoiltEval: Eval of anything ends, with ErrArg, ErrCode, ErrVal or what the expression is worth, in that order.
func TestP1301SpoiltEval(t *testing.T) {
	for seed := range int64(4000) {
		d := newDraw(seed)
		d.vars = []api.Bound{{Name: "a", Kind: api.KNode}, {Name: "e", Kind: api.KEdge}, {Name: "v"}}
		e := parsedExpr(t, d.any(2))
		vars, vals := copied(d.vars), []api.Val{nodeAt(1), edgeAt(1), d.val()}
		for range d.Intn(3) {
			d.spoil(reflect.ValueOf(&e).Elem())
		}
		if d.one(3) {
			d.spoil(reflect.ValueOf(&vars).Elem())
		}
		if d.one(3) {
			d.spoil(reflect.ValueOf(&vals).Elem())
		}
		_, s := over(t, bush())
		_, u := over(t, bush())
		want, fault := api.Val{}, api.OK
		if kinds, err := check.Kinds(e, vars); len(vars) != len(vals) {
			fault = api.ErrArg
		} else if err != nil || len(aggregatesOf(e)) > 0 {
			fault = api.ErrCode
		} else if fault = faultOf(vars, vals); fault == api.OK {
			want, fault = bookEval(e, vars, vals, u)
			if fault == api.OK && kinds>>want.Kind&1 == 0 {
				t.Errorf("%+v = %v, Kinds: %b", e, want, kinds)
			}
		}
		got, code := machine.Eval(e, vars, vals, s)
		if code != fault || got != want {
			t.Errorf("Eval(%+v, %+v, %+v) = %v, %d, want %v, %d", e, vars, vals, got, code, want, fault)
		}
	}
}

// faultOf: ErrVal, if a variable cannot have its value.
func faultOf(vars []api.Bound, vals []api.Val) api.Errno {
	for i, v := range vals {
		if !value.Valid(v) || vars[i].Kind != 0 && v.Kind != api.KNull && v.Kind != vars[i].Kind {
			return api.ErrVal
		}
	}
	return api.OK
}

// liar: a view that answers anything.
type liar struct{ *draw }

func (l liar) code() api.Errno {
	return pick(l.draw, api.OK, api.OK, api.OK, api.OK, api.OK, api.OK, api.OK, api.OK, api.OK, api.ErrGone, api.ErrBlocked, -1)
}

func (l liar) id() int64 { return pick(l.draw, int64(0), 1, 1, 2, 3, -1, math.MinInt64, math.MaxInt64) }

func (l liar) ids() (out []int64, code api.Errno) {
	for range l.Intn(5) {
		out = append(out, l.id())
	}
	return out, l.code()
}

func (l liar) props() (out []api.Prop) {
	for range l.Intn(4) {
		out = append(out, api.Prop{Key: pick(l.draw, "k", "j", "w", "", "A"), Val: pick(l.draw, num(1), null, l.val(), api.Val{Kind: 9}, api.Val{Kind: -1, A: 5}, str("\xff"), nodeAt(1), edgeAt(0))})
	}
	return out
}

func (l liar) Nodes(string) ([]int64, api.Errno)                { return l.ids() }
func (l liar) Find(_, _ string, _ api.Val) ([]int64, api.Errno) { return l.ids() }
func (l liar) Out(int64) ([]int64, api.Errno)                   { return l.ids() }
func (l liar) In(int64) ([]int64, api.Errno)                    { return l.ids() }
func (l liar) Hold(api.Res, int) api.Errno                      { return l.code() }

func (l liar) Node(int64) (api.Node, api.Errno) {
	return api.Node{Id: l.id(), Label: pick(l.draw, "x", "y", "", "A"), Props: l.props()}, l.code()
}

func (l liar) Edge(int64) (api.Edge, api.Errno) {
	return api.Edge{Id: l.id(), Type: pick(l.draw, "t", "u", ""), From: l.id(), To: l.id(), Props: l.props()}, l.code()
}

// TestP1301Liar: over a view that answers anything each run ends, and none panics; behind an error nothing has changed.
func TestP1301Liar(t *testing.T) {
	for seed := range int64(2000) {
		x, sound := trialOf(t, seed)
		if !sound {
			continue
		}
		s := space.New(liar{newDraw(seed)})
		s.AddNode("x", nil)
		unmoved := still(t, s)
		if _, code := x.code.Run(s, 400); code != api.OK {
			unmoved()
		}
	}
}
