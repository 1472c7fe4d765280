package value

import "trellis/api"

func (x null) unary(op int) (item, api.Errno) { return x, api.OK }

func (x truth) unary(op int) (item, api.Errno) {
	if op == api.UNot {
		return !x, api.OK
	}
	return nil, api.ErrKind
}

func (x whole) unary(op int) (item, api.Errno) {
	switch op {
	case api.UNeg:
		return subWhole(0, x)
	case api.URe, api.UConj:
		return x, api.OK
	case api.UIm:
		return whole(0), api.OK
	case api.UNorm:
		return mulWhole(x, x)
	case api.UAbs:
		if x < 0 {
			return subWhole(0, x)
		}
		return x, api.OK
	}
	return nil, api.ErrKind
}

func (x cpx) unary(op int) (item, api.Errno) {
	switch op {
	case api.UNeg:
		return -x, api.OK
	case api.URe:
		return whole(real(x)), api.OK
	case api.UIm:
		return whole(imag(x)), api.OK
	case api.UConj:
		return conj(x), api.OK
	case api.UNorm:
		return whole(norm(x)), api.OK
	}
	return nil, api.ErrKind
}

func (x str) unary(op int) (item, api.Errno) {
	if op == api.ULen {
		return whole(x.points()), api.OK
	}
	return nil, api.ErrKind
}

func (x node) unary(op int) (item, api.Errno) { return nil, api.ErrKind }
func (x edge) unary(op int) (item, api.Errno) { return nil, api.ErrKind }

// points: how many code points it has.
func (x str) points() int {
	n := 0
	for range x {
		n++
	}
	return n
}
