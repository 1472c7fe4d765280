package value_test

import (
	"math"
	"testing"

	"trellis/api"
	"trellis/value"
)

func TestP115ToComplex(t *testing.T) {
	for _, v := range values() {
		want, wantCode := complex(float64(v.A), float64(v.B)), api.OK
		if v.Kind != api.KInt && v.Kind != api.KCpx {
			want, wantCode = 0, api.ErrKind
		} else if v.A > part || v.A < -part {
			want, wantCode = 0, api.ErrRange
		}
		if c, code := value.ToComplex(v); c != want || code != wantCode {
			t.Errorf("ToComplex(%#v) = %v, %d, want %v, %d", v, c, code, want, wantCode)
		}
	}
	for _, v := range noValues() {
		if c, code := value.ToComplex(v); c != 0 || code != api.ErrVal {
			t.Errorf("ToComplex(%#v) = %v, %d", v, c, code)
		}
	}
}

func TestP115FromComplex(t *testing.T) {
	nan, inf, minus := math.NaN(), math.Inf(1), math.Copysign(0, -1)
	for _, c := range []struct {
		x    complex128
		v    api.Val
		code api.Errno
	}{
		{complex(3, -4), cpx(3, -4), 0}, {complex(0, 0), cpx(0, 0), 0}, {complex(minus, 0), cpx(0, 0), 0}, {complex(0, minus), cpx(0, 0), 0}, {complex(minus, minus), cpx(0, 0), 0}, {complex(part, -part), cpx(part, -part), 0}, {complex(-part, part), cpx(-part, part), 0},
		{complex(part+1, 0), null, api.ErrRange}, {complex(0, part+1), null, api.ErrRange}, {complex(-part-1, 0), null, api.ErrRange}, {complex(0, -part-1), null, api.ErrRange}, {complex(part+0.5, 0), null, api.ErrRange}, {complex(0, -part-0.5), null, api.ErrRange}, {complex(math.MaxFloat64, 0), null, api.ErrRange}, {complex(1<<63, 0), null, api.ErrRange},
		{complex(inf, 0), null, api.ErrRange}, {complex(0, inf), null, api.ErrRange}, {complex(-inf, 0), null, api.ErrRange}, {complex(0.5, -inf), null, api.ErrRange}, {complex(inf, 0.5), null, api.ErrRange},
		{complex(0.5, 0), null, api.ErrInexact}, {complex(0, 0.5), null, api.ErrInexact}, {complex(-0.5, 1), null, api.ErrInexact}, {complex(1, math.SmallestNonzeroFloat64), null, api.ErrInexact}, {complex(part-0.5, 0), null, api.ErrInexact},
		{complex(0.5, part+1), null, api.ErrRange}, {complex(part+1, 0.5), null, api.ErrRange},
		{complex(nan, 0), null, api.ErrInexact}, {complex(0, nan), null, api.ErrInexact}, {complex(nan, inf), null, api.ErrInexact}, {complex(inf, nan), null, api.ErrInexact}, {complex(part+1, nan), null, api.ErrInexact}, {complex(nan, nan), null, api.ErrInexact},
	} {
		if v, code := value.FromComplex(c.x); v != c.v || code != c.code {
			t.Errorf("FromComplex(%v) = %#v, %d, want %#v, %d", c.x, v, code, c.v, c.code)
		}
	}
}

func TestP115BackAndForth(t *testing.T) {
	for _, a := range parts {
		for _, b := range parts {
			c, _ := value.ToComplex(cpx(a, b))
			if v, code := value.FromComplex(c); v != cpx(a, b) || code != api.OK {
				t.Errorf("FromComplex(%v) = %#v, %d", c, v, code)
			}
		}
	}
}
