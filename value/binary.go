package value

import (
	"strings"

	"trellis/api"
)

// binary: op is one of api.BAdd to api.BHas.
func binary(op int, x, y item) (item, api.Errno) {
	if op == api.BAnd || op == api.BOr || op == api.BXor {
		return logic(op, x, y)
	}
	if isNull(x) || isNull(y) {
		return null{}, api.OK
	}
	switch op {
	case api.BEq:
		return truth(equal(x, y)), api.OK
	case api.BNe:
		return truth(!equal(x, y)), api.OK
	case api.BLt, api.BLe, api.BGt, api.BGe:
		return relate(op, x, y), api.OK
	case api.BStar, api.BEnds, api.BHas:
		return search(op, x, y)
	case api.BCpx:
		return compose(x, y)
	}
	return arithmetic(op, x, y)
}

// logic: with -1, 0, 1 for false, not known, true, 'and' is the lesser one, 'or' the greater one, and 'xor' the product with the other sign.
func logic(op int, x, y item) (item, api.Errno) {
	a, okA := sureness(x)
	b, okB := sureness(y)
	if !okA || !okB {
		return nil, api.ErrKind
	}
	switch op {
	case api.BAnd:
		return ofSureness(min(a, b)), api.OK
	case api.BOr:
		return ofSureness(max(a, b)), api.OK
	}
	return ofSureness(-a * b), api.OK
}

// sureness: -1 for false, 0 for null, 1 for true; false behind it for any other value.
func sureness(x item) (int, bool) {
	switch a := x.(type) {
	case null:
		return 0, true
	case truth:
		if a {
			return 1, true
		}
		return -1, true
	}
	return 0, false
}

// ofSureness: the other way round.
func ofSureness(n int) item {
	if n == 0 {
		return null{}
	}
	return truth(n > 0)
}

// equal: as BEq says.
func equal(x, y item) bool {
	switch a := x.(type) {
	case whole:
		if b, ok := y.(cpx); ok {
			return equalMixed(a, b)
		}
	case cpx:
		if b, ok := y.(whole); ok {
			return equalMixed(b, a)
		}
	}
	return x.val() == y.val()
}

// equalMixed: in whole numbers, since a float does not hold every int64.
func equalMixed(a whole, b cpx) bool {
	re, im := b.parts()
	return re == int64(a) && im == 0
}

// relate: null for two values that have no greater and no lesser one.
func relate(op int, x, y item) item {
	if !haveOrder(x, y) {
		return null{}
	}
	c := compare(x, y)
	switch op {
	case api.BLt:
		return truth(c < 0)
	case api.BLe:
		return truth(c <= 0)
	case api.BGt:
		return truth(c > 0)
	}
	return truth(c >= 0)
}

// haveOrder: two wholes, two strings or two bools.
func haveOrder(x, y item) bool {
	switch x.(type) {
	case whole, str, truth:
		return x.val().Kind == y.val().Kind
	}
	return false
}

// search: one string in another.
func search(op int, x, y item) (item, api.Errno) {
	a, okA := x.(str)
	b, okB := y.(str)
	if !okA || !okB {
		return nil, api.ErrKind
	}
	switch op {
	case api.BStar:
		return truth(strings.HasPrefix(string(a), string(b))), api.OK
	case api.BEnds:
		return truth(strings.HasSuffix(string(a), string(b))), api.OK
	}
	return truth(strings.Contains(string(a), string(b))), api.OK
}

// compose: the complex number of two wholes.
func compose(x, y item) (item, api.Errno) {
	a, okA := x.(whole)
	b, okB := y.(whole)
	if !okA || !okB {
		return nil, api.ErrKind
	}
	if !isPart(int64(a)) || !isPart(int64(b)) {
		return nil, api.ErrRange
	}
	return cpx(complex(float64(a), float64(b))), api.OK
}

// arithmetic: op is one of api.BAdd to api.BMod.
func arithmetic(op int, x, y item) (item, api.Errno) {
	switch a := x.(type) {
	case str:
		if b, ok := y.(str); ok && op == api.BAdd {
			return join(a, b)
		}
		return nil, api.ErrKind
	case whole:
		if b, ok := y.(whole); ok {
			return wholeArithmetic(op, a, b)
		}
	}
	return mixedArithmetic(op, x, y)
}

// join: b behind a.
func join(a, b str) (item, api.Errno) {
	if len(a)+len(b) > api.MaxStr {
		return nil, api.ErrRange
	}
	return a + b, api.OK
}
