package value_test

import (
	"slices"
	"testing"

	"trellis/api"
	"trellis/value"
)

func list(vs ...api.Val) []api.Val { return vs }

func TestP118Table(t *testing.T) {
	for _, c := range []struct {
		agg  int
		vs   []api.Val
		v    api.Val
		code api.Errno
	}{
		{api.GCount, nil, whole(0), 0}, {api.GCount, list(), whole(0), 0}, {api.GCount, list(null, null), whole(0), 0}, {api.GCount, list(whole(1), null, str("a"), node(1), whole(1)), whole(4), 0}, {api.GCount, list(null, whole(3), cpx(3, -1)), whole(2), 0},
		{api.GSum, nil, whole(0), 0}, {api.GSum, list(null), whole(0), 0}, {api.GSum, list(whole(2), null, whole(3)), whole(5), 0}, {api.GSum, list(whole(2), cpx(1, 1)), cpx(3, 1), 0}, {api.GSum, list(cpx(1, 1), cpx(-1, -1)), cpx(0, 0), 0}, {api.GSum, list(whole(most)), whole(most), 0},
		{api.GSum, list(whole(most), whole(1), whole(-1)), null, api.ErrRange}, {api.GSum, list(whole(most), whole(-1), whole(1)), whole(most), 0}, {api.GSum, list(cpx(part, 0), cpx(1, 0), cpx(-1, 0)), null, api.ErrRange}, {api.GSum, list(whole(part), whole(1), cpx(0, 1)), null, api.ErrRange}, {api.GSum, list(whole(part), whole(1), whole(-1), cpx(0, 1)), cpx(part, 1), 0}, {api.GSum, list(whole(part+1), cpx(-1, 0)), null, api.ErrRange}, {api.GSum, list(cpx(0, 1), whole(part+1)), null, api.ErrRange},
		{api.GSum, list(str("a")), null, api.ErrKind}, {api.GSum, list(str("a"), str("b")), null, api.ErrKind}, {api.GSum, list(whole(most), whole(1), str("a")), null, api.ErrKind}, {api.GSum, list(yes), null, api.ErrKind}, {api.GSum, list(whole(1), node(1)), null, api.ErrKind}, {api.GSum, list(edge(1), null), null, api.ErrKind},
		{api.GMin, nil, null, 0}, {api.GMin, list(null), null, 0}, {api.GMin, list(null, whole(3), cpx(3, -1)), whole(3), 0}, {api.GMin, list(cpx(3, -1), whole(3)), whole(3), 0}, {api.GMin, list(str("b"), yes, whole(0)), str("b"), 0}, {api.GMin, list(whole(0), yes, str("b"), node(4), edge(-9)), node(4), 0}, {api.GMin, list(whole(2), whole(1), whole(3)), whole(1), 0},
		{api.GMax, nil, null, 0}, {api.GMax, list(null), null, 0}, {api.GMax, list(null, whole(3), cpx(3, -1)), cpx(3, -1), 0}, {api.GMax, list(yes, null, str("b")), yes, 0}, {api.GMax, list(whole(2), whole(3), whole(1)), whole(3), 0}, {api.GMax, list(str("a"), node(1)), str("a"), 0},
		{api.GAvg, nil, null, 0}, {api.GAvg, list(null, null), null, 0}, {api.GAvg, list(whole(1), whole(2), whole(4)), whole(2), 0}, {api.GAvg, list(whole(-7), null, whole(4)), whole(-1), 0}, {api.GAvg, list(cpx(1, 1), cpx(3, 1)), cpx(2, 1), 0}, {api.GAvg, list(cpx(1, 1), whole(2)), null, api.ErrInexact}, {api.GAvg, list(cpx(5, 0)), cpx(5, 0), 0}, {api.GAvg, list(whole(most), whole(1)), null, api.ErrRange}, {api.GAvg, list(str("a")), null, api.ErrKind}, {api.GAvg, list(whole(most), whole(1), yes), null, api.ErrKind},
	} {
		if v, code := value.Fold(c.agg, c.vs); v != c.v || code != c.code {
			t.Errorf("Fold(%d, %v) = %#v, %d, want %#v, %d", c.agg, c.vs, v, code, c.v, c.code)
		}
	}
}

func TestP118OrderOfErrors(t *testing.T) {
	for _, bad := range noValues() {
		for _, agg := range []int{-1 << 62, -1, 0, 6, 1 << 62} {
			for _, vs := range [][]api.Val{nil, list(whole(1)), list(bad)} {
				if v, code := value.Fold(agg, vs); v != null || code != api.ErrArg {
					t.Errorf("Fold(%d, %v) = %#v, %d", agg, vs, v, code)
				}
			}
		}
		for agg := api.GCount; agg <= api.GAvg; agg++ {
			for _, vs := range [][]api.Val{list(bad), list(str("a"), bad), list(bad, str("a")), list(whole(most), whole(1), bad), list(null, bad, null)} {
				if v, code := value.Fold(agg, vs); v != null || code != api.ErrVal {
					t.Errorf("Fold(%d, %v) = %#v, %d", agg, vs, v, code)
				}
			}
		}
	}
}

func TestP118Thrown(t *testing.T) {
	r := dice()
	for range 20000 {
		var vs []api.Val
		for range r.IntN(5) {
			v := thrown(r)
			switch r.IntN(4) {
			case 0:
				v = null
			case 1:
				v = whole(r.Int64N(41) - 20)
			case 2:
				v = cpx(r.Int64N(41)-20, r.Int64N(41)-20)
			}
			vs = append(vs, v)
		}
		for agg := api.GCount; agg <= api.GAvg; agg++ {
			want, wantCode := wantFold(agg, vs)
			if v, code := value.Fold(agg, vs); v != want || code != wantCode {
				t.Fatalf("Fold(%d, %v) = %#v, %d, want %#v, %d", agg, vs, v, code, want, wantCode)
			}
		}
	}
}

// wantFold: P118 once more, over what the other promises say of Compare and Binary.
func wantFold(agg int, vs []api.Val) (api.Val, api.Errno) {
	left := slices.DeleteFunc(slices.Clone(vs), func(v api.Val) bool { return v == null })
	count := whole(int64(len(left)))
	switch {
	case agg == api.GCount:
		return count, api.OK
	case len(left) == 0 && agg != api.GSum:
		return null, api.OK
	case agg == api.GMin:
		return slices.MinFunc(left, value.Compare), api.OK
	case agg == api.GMax:
		return slices.MaxFunc(left, value.Compare), api.OK
	case slices.ContainsFunc(left, func(v api.Val) bool { return !isNumber(v) }):
		return null, api.ErrKind
	}
	sum, code := whole(0), api.OK
	for _, v := range left {
		if sum, code = wantTwo(api.BAdd, sum, v); code != api.OK {
			return null, code
		}
	}
	if agg == api.GAvg {
		return wantTwo(api.BDiv, sum, count)
	}
	return sum, api.OK
}
