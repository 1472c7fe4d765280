package value

import (
	"unicode/utf8"

	"trellis/api"
)

// item: a value inside the package, where each kind has a type of its own.
type item interface {
	// val: the same value as the face shows it.
	val() api.Val
	// unary: op is one of api.UNeg to api.UAbs.
	unary(op int) (item, api.Errno)
	// number: it taken as complex; ErrKind, if it is no number.
	number() (complex128, api.Errno)
	// literal: its text.
	literal() string
	// code: its bytes, new memory each time.
	code() []byte
}

type (
	null  struct{}
	truth bool
	whole int64
	cpx   complex128
	str   string
	node  int64
	edge  int64
)

// itemOf: the item of a value; false for what is no value.
func itemOf(v api.Val) (item, bool) {
	x := itemOfKind(v)
	// An item shows only the fields of its kind: where it differs from v, v has something in another field.
	if x == nil || x.val() != v {
		return nil, false
	}
	return x, true
}

// itemOfKind: looks at the fields that v's kind uses alone; nil, if they do not fit.
func itemOfKind(v api.Val) item {
	switch {
	case v.Kind == api.KNull:
		return null{}
	case v.Kind == api.KBool:
		return truth(v.A == 1)
	case v.Kind == api.KInt:
		return whole(v.A)
	case v.Kind == api.KCpx && isPart(v.A) && isPart(v.B):
		return cpx(complex(float64(v.A), float64(v.B)))
	case v.Kind == api.KStr && len(v.S) <= api.MaxStr && utf8.ValidString(v.S):
		return str(v.S)
	case v.Kind == api.KNode && v.A != 0:
		return node(v.A)
	case v.Kind == api.KEdge && v.A != 0:
		return edge(v.A)
	}
	return nil
}

// itemOrNull: null for what is no value.
func itemOrNull(v api.Val) item {
	if x, ok := itemOf(v); ok {
		return x
	}
	return null{}
}

// answer: an item or an error, as the face shows it.
func answer(x item, code api.Errno) (api.Val, api.Errno) {
	if code != api.OK {
		return api.Val{}, code
	}
	return x.val(), api.OK
}

// isPart: can n be a part of a complex number?
func isPart(n int64) bool {
	return -api.MaxPart <= n && n <= api.MaxPart
}

// storable: can a property have it?
func storable(x item) bool {
	switch x.(type) {
	case truth, whole, cpx, str:
		return true
	}
	return false
}

// isNull: is nothing known of it?
func isNull(x item) bool {
	_, ok := x.(null)
	return ok
}

// parts: both are whole numbers that an int64 holds.
func (x cpx) parts() (int64, int64) {
	return int64(real(x)), int64(imag(x))
}

func (x null) val() api.Val { return api.Val{Kind: api.KNull} }

func (x truth) val() api.Val {
	if x {
		return api.Val{Kind: api.KBool, A: 1}
	}
	return api.Val{Kind: api.KBool}
}

func (x whole) val() api.Val { return api.Val{Kind: api.KInt, A: int64(x)} }

func (x cpx) val() api.Val {
	a, b := x.parts()
	return api.Val{Kind: api.KCpx, A: a, B: b}
}

func (x str) val() api.Val  { return api.Val{Kind: api.KStr, S: string(x)} }
func (x node) val() api.Val { return api.Val{Kind: api.KNode, A: int64(x)} }
func (x edge) val() api.Val { return api.Val{Kind: api.KEdge, A: int64(x)} }
