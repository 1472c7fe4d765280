// Package value: layer 1: values, their arithmetic, their order, their text and their bytes.
package value

import (
	"bytes"
	"math"

	"trellis/api"
)

// Valid: is v a value?
func Valid(v api.Val) bool {
	_, ok := itemOf(v)
	return ok
}

// Storable: is v a value that a property can have?
func Storable(v api.Val) bool {
	x, ok := itemOf(v)
	return ok && storable(x)
}

// Name: is s a name?
func Name(s string) bool {
	if len(s) < 1 || len(s) > api.MaxName || !isLetter(s[0]) {
		return false
	}
	for i := range len(s) {
		if !isLetter(s[i]) && !isDigit(s[i]) {
			return false
		}
	}
	return true
}

// Unary: the operation op (api.UNeg ..) on v.
func Unary(op int, v api.Val) (api.Val, api.Errno) {
	if op < api.UNeg || op > api.UAbs {
		return api.Val{}, api.ErrArg
	}
	x, ok := itemOf(v)
	if !ok {
		return api.Val{}, api.ErrVal
	}
	return answer(x.unary(op))
}

// Binary: the operation op (api.BAdd ..) on a and b.
func Binary(op int, a, b api.Val) (api.Val, api.Errno) {
	if op < api.BAdd || op > api.BHas {
		return api.Val{}, api.ErrArg
	}
	x, okA := itemOf(a)
	y, okB := itemOf(b)
	if !okA || !okB {
		return api.Val{}, api.ErrVal
	}
	return answer(binary(op, x, y))
}

// Fold: an aggregate (api.GCount ..) of values.
func Fold(agg int, vs []api.Val) (api.Val, api.Errno) {
	if agg < api.GCount || agg > api.GAvg {
		return api.Val{}, api.ErrArg
	}
	xs, ok := known(vs)
	if !ok {
		return api.Val{}, api.ErrVal
	}
	return answer(fold(agg, xs))
}

// Compare: the total order of values: -1, 0, 1.
func Compare(a, b api.Val) int {
	return compare(itemOrNull(a), itemOrNull(b))
}

// Print: the literal of a value.
func Print(v api.Val) string {
	x, ok := itemOf(v)
	if !ok {
		return ""
	}
	return x.literal()
}

// Scan: the value of a literal.
func Scan(text string) (api.Val, api.Errno) {
	// A text is a literal just if what it seems to say is printed as that text.
	v := guessOfText(text)
	x, ok := itemOf(v)
	if !ok || x.literal() != text {
		return api.Val{}, api.ErrText
	}
	return v, api.OK
}

// Encode: the bytes of a value, in whose order the values stand.
func Encode(v api.Val) ([]byte, api.Errno) {
	x, ok := itemOf(v)
	if !ok {
		return nil, api.ErrVal
	}
	return x.code(), api.OK
}

// Decode: the value at the beginning of b, and how many bytes it takes.
func Decode(b []byte) (api.Val, int, api.Errno) {
	// Bytes begin with a value just if what they seem to say has such bytes.
	v := guessOfBytes(b)
	x, ok := itemOf(v)
	if !ok {
		return api.Val{}, 0, api.ErrBytes
	}
	code := x.code()
	if !bytes.HasPrefix(b, code) {
		return api.Val{}, 0, api.ErrBytes
	}
	return v, len(code), api.OK
}

// ToComplex: a whole or complex number as one of the language's own.
func ToComplex(v api.Val) (complex128, api.Errno) {
	x, ok := itemOf(v)
	if !ok {
		return 0, api.ErrVal
	}
	return x.number()
}

// FromComplex: the other way round.
func FromComplex(c complex128) (api.Val, api.Errno) {
	return answer(fit(c))
}

// Pack: a name as a number of 42 bits, in whose order the names stand.
func Pack(name string) (int64, api.Errno) {
	if !Name(name) {
		return 0, api.ErrName
	}
	return pack(name), api.OK
}

// Unpack: the name of such a number.
func Unpack(n int64) (string, api.Errno) {
	name := guessOfNumber(n)
	if !Name(name) || pack(name) != n {
		return "", api.ErrArg
	}
	return name, api.OK
}

// KeyOf: the index's key of a node's property.
func KeyOf(label, key string, v api.Val, id int64) (api.Key, api.Errno) {
	if !Name(label) || !Name(key) {
		return api.Key{}, api.ErrName
	}
	x, ok := itemOf(v)
	if !ok {
		return api.Key{}, api.ErrVal
	}
	if !storable(x) {
		return api.Key{}, api.ErrKind
	}
	if id < 1 || id > math.MaxUint32 {
		return api.Key{}, api.ErrArg
	}
	var k api.Key
	putHighFirst(k[0:6], uint64(pack(label)))
	putHighFirst(k[6:12], uint64(pack(key)))
	copy(k[12:20], x.code())
	putHighFirst(k[20:24], uint64(id))
	return k, api.OK
}
