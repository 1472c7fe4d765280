package value_test

import (
	"math/big"
	"strings"
	"testing"

	"trellis/api"
	"trellis/value"
)

type twoCase struct {
	op      int
	a, b, w api.Val
	code    api.Errno
}

func tryTwo(t *testing.T, cases []twoCase) {
	t.Helper()
	for _, c := range cases {
		if v, code := value.Binary(c.op, c.a, c.b); v != c.w || code != c.code {
			t.Errorf("Binary(%d, %#v, %#v) = %#v, %d, want %#v, %d", c.op, c.a, c.b, v, code, c.w, c.code)
		}
	}
}

func TestP104OrderOfErrors(t *testing.T) {
	for _, op := range []int{-1 << 62, -1, 0, 19, 20, 1 << 62} {
		for _, v := range append(values(), noValues()...) {
			tryTwo(t, []twoCase{{op, v, whole(1), null, api.ErrArg}, {op, null, v, null, api.ErrArg}})
		}
	}
	for op := api.BAdd; op <= api.BHas; op++ {
		for _, v := range noValues() {
			tryTwo(t, []twoCase{{op, v, null, null, api.ErrVal}, {op, null, v, null, api.ErrVal}, {op, v, whole(0), null, api.ErrVal}, {op, str("a"), v, null, api.ErrVal}, {op, no, v, null, api.ErrVal}, {op, v, v, null, api.ErrVal}})
		}
	}
}

func TestP104NullOnEitherSide(t *testing.T) {
	for op := api.BAdd; op <= api.BHas; op++ {
		if op == api.BAnd || op == api.BOr || op == api.BXor {
			continue
		}
		for _, v := range values() {
			tryTwo(t, []twoCase{{op, v, null, null, 0}, {op, null, v, null, 0}})
		}
	}
}

func TestP105Logic(t *testing.T) {
	tryTwo(t, []twoCase{
		{api.BAnd, no, no, no, 0}, {api.BAnd, no, yes, no, 0}, {api.BAnd, yes, no, no, 0}, {api.BAnd, yes, yes, yes, 0}, {api.BAnd, no, null, no, 0}, {api.BAnd, null, no, no, 0}, {api.BAnd, yes, null, null, 0}, {api.BAnd, null, yes, null, 0}, {api.BAnd, null, null, null, 0},
		{api.BOr, no, no, no, 0}, {api.BOr, no, yes, yes, 0}, {api.BOr, yes, no, yes, 0}, {api.BOr, yes, yes, yes, 0}, {api.BOr, no, null, null, 0}, {api.BOr, null, no, null, 0}, {api.BOr, yes, null, yes, 0}, {api.BOr, null, yes, yes, 0}, {api.BOr, null, null, null, 0},
		{api.BXor, no, no, no, 0}, {api.BXor, no, yes, yes, 0}, {api.BXor, yes, no, yes, 0}, {api.BXor, yes, yes, no, 0}, {api.BXor, no, null, null, 0}, {api.BXor, null, no, null, 0}, {api.BXor, yes, null, null, 0}, {api.BXor, null, yes, null, 0}, {api.BXor, null, null, null, 0},
	})
}

func TestP105OtherKinds(t *testing.T) {
	for _, v := range values() {
		if v.Kind == api.KBool || v.Kind == api.KNull {
			continue
		}
		for _, op := range []int{api.BAnd, api.BOr, api.BXor} {
			for _, w := range []api.Val{no, yes, null, v} {
				tryTwo(t, []twoCase{{op, v, w, null, api.ErrKind}, {op, w, v, null, api.ErrKind}})
			}
		}
	}
}

func TestP106Equal(t *testing.T) {
	tryTwo(t, []twoCase{
		{api.BEq, whole(3), cpx(3, 0), yes, 0}, {api.BEq, cpx(3, 0), whole(3), yes, 0}, {api.BEq, cpx(3, 1), whole(3), no, 0}, {api.BEq, whole(3), cpx(3, -1), no, 0}, {api.BEq, whole(0), cpx(0, 0), yes, 0}, {api.BEq, whole(4), cpx(3, 0), no, 0},
		{api.BEq, cpx(3, 1), cpx(3, 1), yes, 0}, {api.BEq, cpx(3, 1), cpx(3, 2), no, 0}, {api.BEq, cpx(2, 1), cpx(3, 1), no, 0}, {api.BEq, whole(most), whole(most - 1), no, 0}, {api.BEq, whole(most), whole(most), yes, 0},
		{api.BEq, str("a"), whole(1), no, 0}, {api.BEq, str("a"), str("a"), yes, 0}, {api.BEq, str("a"), str("b"), no, 0}, {api.BEq, str("1"), whole(1), no, 0}, {api.BEq, str(""), no, no, 0},
		{api.BEq, yes, whole(1), no, 0}, {api.BEq, no, cpx(0, 0), no, 0}, {api.BEq, yes, yes, yes, 0}, {api.BEq, yes, no, no, 0},
		{api.BEq, node(1), node(1), yes, 0}, {api.BEq, node(1), node(2), no, 0}, {api.BEq, node(1), edge(1), no, 0}, {api.BEq, edge(1), edge(1), yes, 0}, {api.BEq, node(1), whole(1), no, 0}, {api.BEq, null, null, null, 0},
		{api.BNe, node(1), node(2), yes, 0}, {api.BNe, node(1), node(1), no, 0}, {api.BNe, whole(3), cpx(3, 0), no, 0}, {api.BNe, str("a"), whole(1), yes, 0}, {api.BNe, null, null, null, 0},
	})
}

func TestP106Order(t *testing.T) {
	tryTwo(t, []twoCase{
		{api.BLt, whole(1), whole(2), yes, 0}, {api.BLt, whole(2), whole(2), no, 0}, {api.BLt, whole(3), whole(2), no, 0},
		{api.BLe, whole(1), whole(2), yes, 0}, {api.BLe, whole(2), whole(2), yes, 0}, {api.BLe, whole(3), whole(2), no, 0},
		{api.BGt, whole(1), whole(2), no, 0}, {api.BGt, whole(2), whole(2), no, 0}, {api.BGt, whole(3), whole(2), yes, 0},
		{api.BGe, whole(1), whole(2), no, 0}, {api.BGe, whole(2), whole(2), yes, 0}, {api.BGe, whole(3), whole(2), yes, 0},
		{api.BLt, whole(least), whole(most), yes, 0}, {api.BGt, whole(most), whole(most - 1), yes, 0},
		{api.BLt, str("a"), str("ab"), yes, 0}, {api.BLe, str("ab"), str("ab"), yes, 0}, {api.BGt, str("b"), str("abc"), yes, 0}, {api.BGe, str(""), str("\x00"), no, 0}, {api.BLt, str("z"), str("é"), yes, 0}, {api.BLt, str("\uffff"), str("😀"), yes, 0}, {api.BLt, str("B"), str("a"), yes, 0},
		{api.BLt, no, yes, yes, 0}, {api.BLt, yes, no, no, 0}, {api.BGe, yes, yes, yes, 0},
		{api.BLt, cpx(1, 1), whole(2), null, 0}, {api.BLt, whole(2), cpx(3, 0), null, 0}, {api.BLe, cpx(1, 0), cpx(1, 0), null, 0}, {api.BGt, node(2), node(1), null, 0}, {api.BGe, edge(1), edge(1), null, 0}, {api.BGt, str("a"), whole(1), null, 0}, {api.BLt, no, whole(1), null, 0}, {api.BLt, no, str("a"), null, 0}, {api.BLe, null, null, null, 0},
	})
}

func TestP107Search(t *testing.T) {
	tryTwo(t, []twoCase{
		{api.BStar, str("abc"), str("ab"), yes, 0}, {api.BStar, str("abc"), str("bc"), no, 0}, {api.BStar, str("abc"), str("abc"), yes, 0}, {api.BStar, str("ab"), str("abc"), no, 0}, {api.BStar, str("abc"), str(""), yes, 0}, {api.BStar, str(""), str(""), yes, 0}, {api.BStar, str(""), str("a"), no, 0},
		{api.BEnds, str("abc"), str("bc"), yes, 0}, {api.BEnds, str("abc"), str("ab"), no, 0}, {api.BEnds, str("abc"), str("abc"), yes, 0}, {api.BEnds, str("abc"), str(""), yes, 0}, {api.BEnds, str("c"), str("bc"), no, 0},
		{api.BHas, str("abc"), str("b"), yes, 0}, {api.BHas, str("abc"), str("bc"), yes, 0}, {api.BHas, str("abc"), str("ab"), yes, 0}, {api.BHas, str("abc"), str("ac"), no, 0}, {api.BHas, str("abc"), str(""), yes, 0}, {api.BHas, str(""), str(""), yes, 0}, {api.BHas, str("a"), str("ab"), no, 0}, {api.BHas, str("aéb"), str("é"), yes, 0},
	})
	for _, op := range []int{api.BStar, api.BEnds, api.BHas} {
		for _, v := range values() {
			if v.Kind != api.KStr && v != null {
				tryTwo(t, []twoCase{{op, v, str(""), null, api.ErrKind}, {op, str("a"), v, null, api.ErrKind}, {op, v, v, null, api.ErrKind}})
			}
		}
	}
}

func TestP107Compose(t *testing.T) {
	tryTwo(t, []twoCase{
		{api.BCpx, whole(1), whole(-2), cpx(1, -2), 0}, {api.BCpx, whole(5), whole(0), cpx(5, 0), 0}, {api.BCpx, whole(part), whole(-part), cpx(part, -part), 0},
		{api.BCpx, whole(part + 1), whole(0), null, api.ErrRange}, {api.BCpx, whole(-part - 1), whole(0), null, api.ErrRange}, {api.BCpx, whole(0), whole(part + 1), null, api.ErrRange}, {api.BCpx, whole(0), whole(-part - 1), null, api.ErrRange}, {api.BCpx, whole(least), whole(most), null, api.ErrRange},
		{api.BCpx, cpx(1, 0), whole(1), null, api.ErrKind}, {api.BCpx, whole(1), cpx(1, 0), null, api.ErrKind}, {api.BCpx, whole(part + 1), str("a"), null, api.ErrKind}, {api.BCpx, str("a"), whole(1), null, api.ErrKind}, {api.BCpx, yes, whole(1), null, api.ErrKind}, {api.BCpx, whole(1), node(1), null, api.ErrKind},
	})
}

func TestP108Wholes(t *testing.T) {
	tryTwo(t, []twoCase{
		{api.BAdd, whole(2), whole(3), whole(5), 0}, {api.BAdd, whole(most), whole(1), null, api.ErrRange}, {api.BAdd, whole(least), whole(-1), null, api.ErrRange}, {api.BAdd, whole(least), whole(most), whole(-1), 0}, {api.BAdd, whole(most), whole(0), whole(most), 0},
		{api.BSub, whole(2), whole(3), whole(-1), 0}, {api.BSub, whole(0), whole(least), null, api.ErrRange}, {api.BSub, whole(-1), whole(least), whole(most), 0}, {api.BSub, whole(least), whole(1), null, api.ErrRange},
		{api.BMul, whole(-4), whole(3), whole(-12), 0}, {api.BMul, whole(1 << 32), whole(1 << 31), null, api.ErrRange}, {api.BMul, whole(-1 << 32), whole(1 << 31), whole(least), 0}, {api.BMul, whole(least), whole(-1), null, api.ErrRange}, {api.BMul, whole(-1), whole(least), null, api.ErrRange}, {api.BMul, whole(least), whole(1), whole(least), 0}, {api.BMul, whole(least), whole(0), whole(0), 0}, {api.BMul, whole(0), whole(least), whole(0), 0}, {api.BMul, whole(1 << 32), whole(1 << 32), null, api.ErrRange},
		{api.BDiv, whole(7), whole(2), whole(3), 0}, {api.BDiv, whole(-7), whole(2), whole(-3), 0}, {api.BDiv, whole(7), whole(-2), whole(-3), 0}, {api.BDiv, whole(-7), whole(-2), whole(3), 0}, {api.BDiv, whole(least), whole(-1), null, api.ErrRange}, {api.BDiv, whole(least), whole(1), whole(least), 0}, {api.BDiv, whole(1), whole(0), null, api.ErrZero}, {api.BDiv, whole(0), whole(0), null, api.ErrZero},
		{api.BMod, whole(7), whole(2), whole(1), 0}, {api.BMod, whole(-7), whole(2), whole(-1), 0}, {api.BMod, whole(7), whole(-2), whole(1), 0}, {api.BMod, whole(-7), whole(-2), whole(-1), 0}, {api.BMod, whole(least), whole(-1), whole(0), 0}, {api.BMod, whole(1), whole(0), null, api.ErrZero},
	})
}

func TestP108Strings(t *testing.T) {
	tryTwo(t, []twoCase{
		{api.BAdd, str("ab"), str("c"), str("abc"), 0}, {api.BAdd, str(""), str(""), str(""), 0}, {api.BAdd, str(strings.Repeat("a", 31)), str("b"), str(strings.Repeat("a", 31) + "b"), 0}, {api.BAdd, str(strings.Repeat("a", 32)), str(""), str(strings.Repeat("a", 32)), 0},
		{api.BAdd, str(strings.Repeat("a", 32)), str("b"), null, api.ErrRange}, {api.BAdd, str("b"), str(strings.Repeat("a", 32)), null, api.ErrRange}, {api.BAdd, str(strings.Repeat("a", 31)), str("é"), null, api.ErrRange}, {api.BAdd, str(strings.Repeat("é", 16)), str("a"), null, api.ErrRange},
		{api.BAdd, str("ab"), whole(3), null, api.ErrKind}, {api.BAdd, whole(3), str("ab"), null, api.ErrKind},
		{api.BSub, str("a"), str("a"), null, api.ErrKind}, {api.BMul, str("a"), str("a"), null, api.ErrKind}, {api.BDiv, str("a"), str("a"), null, api.ErrKind}, {api.BMod, str("a"), str("a"), null, api.ErrKind},
	})
}

func TestP109Complex(t *testing.T) {
	tryTwo(t, []twoCase{
		{api.BAdd, cpx(1, 2), whole(3), cpx(4, 2), 0}, {api.BAdd, whole(3), cpx(1, 2), cpx(4, 2), 0}, {api.BSub, whole(3), cpx(3, 0), cpx(0, 0), 0}, {api.BAdd, cpx(part, 0), cpx(1, 0), null, api.ErrRange}, {api.BSub, cpx(0, -part), cpx(0, 1), null, api.ErrRange}, {api.BAdd, cpx(part-1, -part+1), cpx(1, -1), cpx(part, -part), 0},
		{api.BMul, cpx(3, 4), cpx(1, -2), cpx(11, -2), 0}, {api.BMul, cpx(part, 0), whole(2), null, api.ErrRange}, {api.BMul, cpx(part, 0), whole(-1), cpx(-part, 0), 0}, {api.BMul, cpx(0, part), cpx(0, 1), cpx(-part, 0), 0}, {api.BMul, cpx(5793, 5793), cpx(2896, -2896), cpx(33553056, 0), 0},
		{api.BDiv, cpx(11, -2), cpx(1, -2), cpx(3, 4), 0}, {api.BDiv, cpx(3, 4), whole(2), null, api.ErrInexact}, {api.BDiv, cpx(4, 4), whole(2), cpx(2, 2), 0}, {api.BDiv, whole(2), cpx(1, 1), cpx(1, -1), 0}, {api.BDiv, cpx(part, part), cpx(1, 1), cpx(part, 0), 0}, {api.BDiv, cpx(part, part), cpx(0, 1), cpx(part, -part), 0}, {api.BDiv, cpx(2, 1), whole(2), null, api.ErrInexact}, {api.BDiv, cpx(1, 2), whole(2), null, api.ErrInexact}, {api.BDiv, cpx(0, 0), cpx(7, 7), cpx(0, 0), 0}, {api.BDiv, cpx(1, 0), cpx(part, part), null, api.ErrInexact},
		{api.BDiv, cpx(part, part-1), cpx(part-1, part), null, api.ErrInexact}, {api.BDiv, cpx(part, part), cpx(part, part), cpx(1, 0), 0},
		{api.BMod, cpx(3, 4), whole(2), cpx(-1, 0), 0}, {api.BMod, cpx(5, 0), cpx(2, 0), cpx(-1, 0), 0}, {api.BMod, cpx(-5, 0), cpx(2, 0), cpx(-1, 0), 0}, {api.BMod, cpx(0, 5), cpx(2, 0), cpx(0, -1), 0}, {api.BMod, cpx(0, -5), whole(2), cpx(0, -1), 0}, {api.BMod, whole(7), cpx(3, 0), cpx(1, 0), 0}, {api.BMod, whole(8), cpx(3, 0), cpx(-1, 0), 0}, {api.BMod, cpx(11, -2), cpx(1, -2), cpx(0, 0), 0},
		{api.BDiv, cpx(1, 1), whole(0), null, api.ErrZero}, {api.BDiv, cpx(1, 1), cpx(0, 0), null, api.ErrZero}, {api.BMod, whole(1), cpx(0, 0), null, api.ErrZero}, {api.BMod, cpx(1, 1), whole(0), null, api.ErrZero},
		{api.BAdd, cpx(1, 1), whole(part + 1), null, api.ErrRange}, {api.BSub, whole(-part - 1), cpx(-1, 1), null, api.ErrRange}, {api.BMul, cpx(0, 0), whole(part + 1), null, api.ErrRange}, {api.BDiv, cpx(1, 1), whole(part + 1), null, api.ErrRange}, {api.BDiv, whole(part + 1), cpx(0, 0), null, api.ErrRange}, {api.BMod, whole(least), cpx(0, 0), null, api.ErrRange}, {api.BMod, cpx(1, 1), whole(most), null, api.ErrRange},
		{api.BAdd, cpx(1, 1), str("a"), null, api.ErrKind}, {api.BAdd, str("a"), cpx(1, 1), null, api.ErrKind}, {api.BMul, yes, whole(1), null, api.ErrKind}, {api.BDiv, cpx(1, 1), yes, null, api.ErrKind}, {api.BDiv, whole(most), node(1), null, api.ErrKind}, {api.BMod, edge(1), whole(0), null, api.ErrKind}, {api.BSub, node(1), node(1), null, api.ErrKind}, {api.BAdd, yes, yes, null, api.ErrKind},
	})
}

func TestP104ToP109AllPairs(t *testing.T) {
	vs := values()
	for _, a := range vs {
		for _, b := range vs {
			againstBig(t, a, b)
		}
	}
}

func TestP104ToP109Thrown(t *testing.T) {
	r := dice()
	for range 30000 {
		againstBig(t, thrown(r), thrown(r))
	}
	// Small divisors, so that whole quotients and halves come up often.
	for range 30000 {
		againstBig(t, cpx(r.Int64N(2*part+1)-part, r.Int64N(2*part+1)-part), cpx(r.Int64N(9)-4, r.Int64N(9)-4))
	}
}

func TestP109RestIsSmall(t *testing.T) {
	r := dice()
	for range 20000 {
		a := cpx(r.Int64N(2*part+1)-part, r.Int64N(2*part+1)-part)
		b := cpx(r.Int64N(2*part+1)-part, r.Int64N(2*part+1)-part)
		if r.IntN(2) == 0 {
			b = cpx(b.A>>16, b.B>>16)
		}
		if b == cpx(0, 0) {
			continue
		}
		v, code := value.Binary(api.BMod, a, b)
		if code != api.OK || v.Kind != api.KCpx || 2*(v.A*v.A+v.B*v.B) > b.A*b.A+b.B*b.B {
			t.Fatalf("BMod of %#v, %#v = %#v, %d", a, b, v, code)
		}
	}
}

func againstBig(t *testing.T, a, b api.Val) {
	t.Helper()
	for op := api.BAdd; op <= api.BHas; op++ {
		want, wantCode := wantTwo(op, a, b)
		if v, code := value.Binary(op, a, b); v != want || code != wantCode {
			t.Fatalf("Binary(%d, %#v, %#v) = %#v, %d, want %#v, %d", op, a, b, v, code, want, wantCode)
		}
	}
}

// wantTwo: P104 to P109 once more, in numbers without bounds.
func wantTwo(op int, a, b api.Val) (api.Val, api.Errno) {
	if op == api.BAnd || op == api.BOr || op == api.BXor {
		return wantLogic(op, a, b)
	}
	if a == null || b == null {
		return null, api.OK
	}
	same := a.Kind == b.Kind
	switch {
	case op == api.BEq || op == api.BNe:
		return truth(wantEqual(a, b) == (op == api.BEq)), api.OK
	case op >= api.BLt && op <= api.BGe:
		if !same || a.Kind != api.KInt && a.Kind != api.KStr && a.Kind != api.KBool {
			return null, api.OK
		}
		below, above := a.A < b.A || a.S < b.S, a.A > b.A || a.S > b.S
		return truth(op == api.BLt && below || op == api.BLe && !above || op == api.BGt && above || op == api.BGe && !below), api.OK
	case op == api.BStar || op == api.BEnds || op == api.BHas:
		if !same || a.Kind != api.KStr {
			return null, api.ErrKind
		}
		at := strings.Index(a.S, b.S)
		return truth(op == api.BStar && at == 0 || op == api.BEnds && strings.HasSuffix(a.S, b.S) || op == api.BHas && at >= 0), api.OK
	case op == api.BCpx:
		if !same || a.Kind != api.KInt {
			return null, api.ErrKind
		}
		return wantComplex(big.NewInt(a.A), big.NewInt(b.A))
	case op == api.BAdd && same && a.Kind == api.KStr:
		if len(a.S+b.S) > 32 {
			return null, api.ErrRange
		}
		return str(a.S + b.S), api.OK
	case !isNumber(a) || !isNumber(b):
		return null, api.ErrKind
	case same && a.Kind == api.KInt:
		return wantOfWholes(op, a.A, b.A)
	}
	return wantOfComplex(op, a, b)
}

func isNumber(v api.Val) bool { return v.Kind == api.KInt || v.Kind == api.KCpx }

func wantEqual(a, b api.Val) bool {
	if isNumber(a) && isNumber(b) {
		return a.A == b.A && a.B == b.B
	}
	return a == b
}

func wantLogic(op int, a, b api.Val) (api.Val, api.Errno) {
	if a != null && a.Kind != api.KBool || b != null && b.Kind != api.KBool {
		return null, api.ErrKind
	}
	switch {
	case op == api.BAnd && (a == no || b == no):
		return no, api.OK
	case op == api.BOr && (a == yes || b == yes):
		return yes, api.OK
	case a == null || b == null:
		return null, api.OK
	case op == api.BXor:
		return truth(a != b), api.OK
	}
	return truth(op == api.BAnd), api.OK
}

func wantOfWholes(op int, m, n int64) (api.Val, api.Errno) {
	a, b, r := big.NewInt(m), big.NewInt(n), new(big.Int)
	switch op {
	case api.BAdd:
		return wantWhole(r.Add(a, b))
	case api.BSub:
		return wantWhole(r.Sub(a, b))
	case api.BMul:
		return wantWhole(r.Mul(a, b))
	}
	if n == 0 {
		return null, api.ErrZero
	}
	if op == api.BDiv {
		return wantWhole(r.Quo(a, b))
	}
	return wantWhole(r.Rem(a, b))
}

func wantComplex(re, im *big.Int) (api.Val, api.Errno) {
	bound := big.NewInt(part)
	if re.CmpAbs(bound) > 0 || im.CmpAbs(bound) > 0 {
		return null, api.ErrRange
	}
	return cpx(re.Int64(), im.Int64()), api.OK
}

func wantOfComplex(op int, a, b api.Val) (api.Val, api.Errno) {
	for _, v := range []api.Val{a, b} {
		if v.A < -part || v.A > part {
			return null, api.ErrRange
		}
	}
	// All of these are below 2^53, so int64 has them without a wrap.
	switch op {
	case api.BAdd:
		return wantComplex(big.NewInt(a.A+b.A), big.NewInt(a.B+b.B))
	case api.BSub:
		return wantComplex(big.NewInt(a.A-b.A), big.NewInt(a.B-b.B))
	case api.BMul:
		return wantComplex(big.NewInt(a.A*b.A-a.B*b.B), big.NewInt(a.A*b.B+a.B*b.A))
	}
	norm := b.A*b.A + b.B*b.B
	if norm == 0 {
		return null, api.ErrZero
	}
	re, im := big.NewRat(a.A*b.A+a.B*b.B, norm), big.NewRat(a.B*b.A-a.A*b.B, norm)
	if op == api.BDiv {
		if !re.IsInt() || !im.IsInt() {
			return null, api.ErrInexact
		}
		return wantComplex(re.Num(), im.Num())
	}
	p, q := nearest(re), nearest(im)
	return wantComplex(big.NewInt(a.A-b.A*p+b.B*q), big.NewInt(a.B-b.A*q-b.B*p))
}

// nearest: the floor of x and a half.
func nearest(x *big.Rat) int64 {
	y := new(big.Rat).Add(x, big.NewRat(1, 2))
	// Div is Euclid's: with a denominator above 0 it is the floor.
	return new(big.Int).Div(y.Num(), y.Denom()).Int64()
}
