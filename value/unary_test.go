package value_test

import (
	"math/big"
	"testing"
	"unicode/utf8"

	"trellis/api"
	"trellis/value"
)

func TestP103Table(t *testing.T) {
	for _, c := range []struct {
		op   int
		v, w api.Val
		code api.Errno
	}{
		{api.UNeg, whole(5), whole(-5), 0}, {api.UNeg, whole(0), whole(0), 0}, {api.UNeg, whole(most), whole(-most), 0}, {api.UNeg, whole(least), null, api.ErrRange}, {api.UNeg, whole(least + 1), whole(most), 0},
		{api.UNeg, cpx(1, -2), cpx(-1, 2), 0}, {api.UNeg, cpx(0, 0), cpx(0, 0), 0}, {api.UNeg, cpx(part, -part), cpx(-part, part), 0},
		{api.UNot, yes, no, 0}, {api.UNot, no, yes, 0}, {api.UNot, null, null, 0}, {api.UNot, whole(0), null, api.ErrKind},
		{api.URe, whole(-4), whole(-4), 0}, {api.URe, whole(least), whole(least), 0}, {api.URe, cpx(4, 5), whole(4), 0},
		{api.UIm, whole(-4), whole(0), 0}, {api.UIm, cpx(4, -5), whole(-5), 0}, {api.UIm, cpx(4, 0), whole(0), 0},
		{api.UConj, whole(most), whole(most), 0}, {api.UConj, cpx(4, 5), cpx(4, -5), 0}, {api.UConj, cpx(4, 0), cpx(4, 0), 0},
		{api.UNorm, whole(-3), whole(9), 0}, {api.UNorm, whole(0), whole(0), 0}, {api.UNorm, cpx(3, -4), whole(25), 0}, {api.UNorm, cpx(part, -part), whole(1 << 51), 0}, {api.UNorm, cpx(part-1, part-3), whole(2251799545249802), 0},
		{api.UNorm, whole(3037000499), whole(9223372030926249001), 0}, {api.UNorm, whole(-3037000499), whole(9223372030926249001), 0}, {api.UNorm, whole(3037000500), null, api.ErrRange}, {api.UNorm, whole(1 << 32), null, api.ErrRange}, {api.UNorm, whole(least), null, api.ErrRange}, {api.UNorm, whole(most), null, api.ErrRange},
		{api.ULen, str(""), whole(0), 0}, {api.ULen, str("é"), whole(1), 0}, {api.ULen, str("aé😀\x00"), whole(4), 0}, {api.ULen, str("e\u0301"), whole(2), 0}, {api.ULen, str("\ufffd\ufffd"), whole(2), 0},
		{api.UAbs, whole(-9), whole(9), 0}, {api.UAbs, whole(9), whole(9), 0}, {api.UAbs, whole(0), whole(0), 0}, {api.UAbs, whole(least), null, api.ErrRange}, {api.UAbs, whole(least + 1), whole(most), 0}, {api.UAbs, cpx(1, 1), null, api.ErrKind}, {api.UAbs, cpx(1, 0), null, api.ErrKind},
		{9, whole(1), null, api.ErrArg},
	} {
		if v, code := value.Unary(c.op, c.v); v != c.w || code != c.code {
			t.Errorf("Unary(%d, %#v) = %#v, %d, want %#v, %d", c.op, c.v, v, code, c.w, c.code)
		}
	}
}

func TestP103OrderOfErrors(t *testing.T) {
	for _, op := range []int{-1 << 62, -1, 0, 9, 10, 18, 1 << 62} {
		for _, v := range append(values(), noValues()...) {
			if w, code := value.Unary(op, v); w != null || code != api.ErrArg {
				t.Errorf("Unary(%d, %#v) = %#v, %d", op, v, w, code)
			}
		}
	}
	for op := api.UNeg; op <= api.UAbs; op++ {
		for _, v := range noValues() {
			if w, code := value.Unary(op, v); w != null || code != api.ErrVal {
				t.Errorf("Unary(%d, %#v) = %#v, %d", op, v, w, code)
			}
		}
		if w, code := value.Unary(op, null); w != null || code != api.OK {
			t.Errorf("Unary(%d, null) = %#v, %d", op, w, code)
		}
	}
}

func TestP103AllValues(t *testing.T) {
	for _, v := range values() {
		for op := api.UNeg; op <= api.UAbs; op++ {
			want, wantCode := wantUnary(op, v)
			if w, code := value.Unary(op, v); w != want || code != wantCode {
				t.Errorf("Unary(%d, %#v) = %#v, %d, want %#v, %d", op, v, w, code, want, wantCode)
			}
		}
	}
}

// wantUnary: P103 once more, in numbers without bounds.
func wantUnary(op int, v api.Val) (api.Val, api.Errno) {
	a, b := big.NewInt(v.A), big.NewInt(v.B)
	switch {
	case v.Kind == api.KNull:
		return null, api.OK
	case op == api.UNot && v.Kind == api.KBool:
		return truth(v.A == 0), api.OK
	case op == api.ULen && v.Kind == api.KStr:
		return whole(int64(utf8.RuneCountInString(v.S))), api.OK
	case op == api.UAbs && v.Kind == api.KInt:
		return wantWhole(a.Abs(a))
	case v.Kind != api.KInt && v.Kind != api.KCpx:
		return null, api.ErrKind
	case op == api.UNeg && v.Kind == api.KInt:
		return wantWhole(a.Neg(a))
	case op == api.UNeg:
		return cpx(-v.A, -v.B), api.OK
	case op == api.URe:
		return whole(v.A), api.OK
	case op == api.UIm:
		return whole(v.B), api.OK
	case op == api.UConj:
		return api.Val{Kind: v.Kind, A: v.A, B: -v.B}, api.OK
	case op == api.UNorm:
		return wantWhole(new(big.Int).Add(new(big.Int).Mul(a, a), new(big.Int).Mul(b, b)))
	}
	return null, api.ErrKind
}

func wantWhole(n *big.Int) (api.Val, api.Errno) {
	if !n.IsInt64() {
		return null, api.ErrRange
	}
	return whole(n.Int64()), api.OK
}
