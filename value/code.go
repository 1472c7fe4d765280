package value

import (
	"math/bits"

	"trellis/api"
)

// The first bytes of the kinds that do not begin with a whole number's bytes.
const (
	codeNode = 16
	codeEdge = 17
	codeStr  = 32
	codeBool = 48
	codeNull = 80
)

// A whole number's first byte is codeZero and its length, or codeZero less its length.
const codeZero = 64

// What stands behind a number's first part.
const (
	codeAlone = 0
	codePair  = 1
)

// A byte 0 inside a string has codeInside behind it, the one at its end codeEnd.
const (
	codeInside = 255
	codeEnd    = 0
)

func (x null) code() []byte { return []byte{codeNull} }

func (x truth) code() []byte { return []byte{codeBool, byte(x.val().A)} }

func (x whole) code() []byte {
	return append(appendWhole(nil, int64(x)), codeAlone)
}

func (x cpx) code() []byte {
	a, b := x.parts()
	return appendWhole(append(appendWhole(nil, a), codePair), b)
}

func (x str) code() []byte {
	b := []byte{codeStr}
	for i := range len(x) {
		b = append(b, x[i])
		if x[i] == 0 {
			b = append(b, codeInside)
		}
	}
	return append(b, 0, codeEnd)
}

func (x node) code() []byte { return appendWhole([]byte{codeNode}, int64(x)) }
func (x edge) code() []byte { return appendWhole([]byte{codeEdge}, int64(x)) }

// appendWhole: b with the bytes of n behind it.
func appendWhole(b []byte, n int64) []byte {
	m := uint64(n)
	if n < 0 {
		m = -m
	}
	size := (bits.Len64(m) + 7) / 8
	digits := make([]byte, size)
	if n < 0 {
		// The complement of m's last bytes is 255 less each of them.
		putHighFirst(digits, ^m)
		return append(append(b, byte(codeZero-size)), digits...)
	}
	putHighFirst(digits, m)
	return append(append(b, byte(codeZero+size)), digits...)
}

// putHighFirst: fills b with the last bytes of n, the highest first.
func putHighFirst(b []byte, n uint64) {
	for i := len(b) - 1; i >= 0; i-- {
		b[i] = byte(n)
		n >>= 8
	}
}

// takeWhole: the whole number whose bytes b begins with, if it does, and what stands behind them; else anything.
func takeWhole(b []byte) (int64, []byte) {
	if len(b) == 0 {
		return 0, nil
	}
	size, flip := int(b[0])-codeZero, byte(0)
	if size < 0 {
		size, flip = -size, 255
	}
	if size > 8 || size > len(b)-1 {
		return 0, nil
	}
	m := uint64(0)
	for _, x := range b[1 : 1+size] {
		m = m<<8 | uint64(x^flip)
	}
	if flip != 0 {
		m = -m
	}
	return int64(m), b[1+size:]
}

// guessOfBytes: the value whose bytes b begins with, if it does with one's; else anything.
func guessOfBytes(b []byte) api.Val {
	if len(b) == 0 {
		return api.Val{}
	}
	switch b[0] {
	case codeNull:
		return api.Val{Kind: api.KNull}
	case codeBool:
		return guessOfBool(b[1:])
	case codeStr:
		return api.Val{Kind: api.KStr, S: takeString(b[1:])}
	case codeNode:
		id, _ := takeWhole(b[1:])
		return api.Val{Kind: api.KNode, A: id}
	case codeEdge:
		id, _ := takeWhole(b[1:])
		return api.Val{Kind: api.KEdge, A: id}
	}
	return guessOfNumberBytes(b)
}

func guessOfBool(b []byte) api.Val {
	if len(b) > 0 && b[0] == 1 {
		return api.Val{Kind: api.KBool, A: 1}
	}
	return api.Val{Kind: api.KBool}
}

func guessOfNumberBytes(b []byte) api.Val {
	n, behind := takeWhole(b)
	if len(behind) > 0 && behind[0] == codePair {
		m, _ := takeWhole(behind[1:])
		return api.Val{Kind: api.KCpx, A: n, B: m}
	}
	return api.Val{Kind: api.KInt, A: n}
}

// takeString: the string whose bytes b begins with, if it does, else any; it takes no more bytes than a string may have.
func takeString(b []byte) string {
	var s []byte
	for i := 0; i < len(b) && len(s) < api.MaxStr; i++ {
		if b[i] == 0 {
			i++
			if i == len(b) || b[i] == codeEnd {
				break
			}
			s = append(s, 0)
			continue
		}
		s = append(s, b[i])
	}
	return string(s)
}
