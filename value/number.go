package value

import (
	"math"

	"trellis/api"
)

func (x null) number() (complex128, api.Errno)  { return 0, api.ErrKind }
func (x truth) number() (complex128, api.Errno) { return 0, api.ErrKind }

func (x whole) number() (complex128, api.Errno) {
	if !isPart(int64(x)) {
		return 0, api.ErrRange
	}
	return complex(float64(x), 0), api.OK
}

func (x cpx) number() (complex128, api.Errno)  { return complex128(x), api.OK }
func (x str) number() (complex128, api.Errno)  { return 0, api.ErrKind }
func (x node) number() (complex128, api.Errno) { return 0, api.ErrKind }
func (x edge) number() (complex128, api.Errno) { return 0, api.ErrKind }

// wholeArithmetic: op is one of api.BAdd to api.BMod.
func wholeArithmetic(op int, a, b whole) (item, api.Errno) {
	switch op {
	case api.BAdd:
		return addWhole(a, b)
	case api.BSub:
		return subWhole(a, b)
	case api.BMul:
		return mulWhole(a, b)
	}
	if b == 0 {
		return nil, api.ErrZero
	}
	if op == api.BDiv {
		return divWhole(a, b)
	}
	return a % b, api.OK
}

func addWhole(a, b whole) (item, api.Errno) {
	sum := a + b
	// A sum that wrapped round lies on the wrong side of a.
	if (sum > a) != (b > 0) {
		return nil, api.ErrRange
	}
	return sum, api.OK
}

func subWhole(a, b whole) (item, api.Errno) {
	rest := a - b
	if (rest < a) != (b > 0) {
		return nil, api.ErrRange
	}
	return rest, api.OK
}

func mulWhole(a, b whole) (item, api.Errno) {
	if a == 0 {
		return whole(0), api.OK
	}
	product := a * b
	// -1 times the least number wraps round to a product that divides back.
	if product/a != b || a == -1 && b == math.MinInt64 {
		return nil, api.ErrRange
	}
	return product, api.OK
}

// divWhole: b is not 0.
func divWhole(a, b whole) (item, api.Errno) {
	if a == math.MinInt64 && b == -1 {
		return nil, api.ErrRange
	}
	return a / b, api.OK
}

// mixedArithmetic: both are taken as complex; op is one of api.BAdd to api.BMod.
func mixedArithmetic(op int, x, y item) (item, api.Errno) {
	a, codeA := x.number()
	b, codeB := y.number()
	if codeA == api.ErrKind || codeB == api.ErrKind {
		return nil, api.ErrKind
	}
	if codeA != api.OK || codeB != api.OK {
		return nil, api.ErrRange
	}
	return complexArithmetic(op, a, b)
}

// complexArithmetic: sums and products are exact: no part of them is above 2^51.
func complexArithmetic(op int, a, b complex128) (item, api.Errno) {
	switch op {
	case api.BAdd:
		return fit(a + b)
	case api.BSub:
		return fit(a - b)
	case api.BMul:
		return fit(a * b)
	}
	if b == 0 {
		return nil, api.ErrZero
	}
	top := a * complex128(conj(cpx(b)))
	bottom := norm(cpx(b))
	if op == api.BDiv {
		// Both are whole numbers of at most 2^51, so a part that is not whole is at least 1/bottom away from every whole one, and the rounding is less than that: it stays not whole.
		return fit(complex(real(top)/bottom, imag(top)/bottom))
	}
	q := complex(nearest(real(top), bottom), nearest(imag(top), bottom))
	return fit(a - b*q)
}

// nearest: the whole number that is nearest to n/d, the greater one of two. (2n+d and 2d are exact and below 2^53, so the rounding of their quotient passes no whole number.)
func nearest(n, d float64) float64 {
	return math.Floor((2*n + d) / (2 * d))
}

func conj(x cpx) cpx {
	return cpx(complex(real(x), -imag(x)))
}

func norm(x cpx) float64 {
	return real(x)*real(x) + imag(x)*imag(x)
}

// fit: a complex number of the language as a value.
func fit(c complex128) (item, api.Errno) {
	re, im := real(c), imag(c)
	switch {
	case math.IsNaN(re) || math.IsNaN(im):
		return nil, api.ErrInexact
	case math.Abs(re) > api.MaxPart || math.Abs(im) > api.MaxPart:
		return nil, api.ErrRange
	case math.Trunc(re) != re || math.Trunc(im) != im:
		return nil, api.ErrInexact
	}
	return cpx(c), api.OK
}
