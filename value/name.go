package value

import "trellis/api"

// nameBase: a name's bytes count 1 to 36, and 0 where there is none.
const nameBase = 37

func isLetter(c byte) bool { return 'a' <= c && c <= 'z' }
func isDigit(c byte) bool  { return '0' <= c && c <= '9' }

// pack: the number of a name.
func pack(name string) int64 {
	n := int64(0)
	for i := range api.MaxName {
		n *= nameBase
		if i < len(name) {
			n += countOf(name[i])
		}
	}
	return n
}

// countOf: what a byte of a name counts.
func countOf(c byte) int64 {
	if isDigit(c) {
		return int64(c-'0') + 1
	}
	return int64(c-'a') + 11
}

// byteOf: the byte that counts n, from 1 to 36.
func byteOf(n int64) byte {
	if n <= 10 {
		return byte('0' + n - 1)
	}
	return byte('a' + n - 11)
}

// guessOfNumber: the name whose number is n, if there is one; else any text.
func guessOfNumber(n int64) string {
	if n < 0 {
		return ""
	}
	var b [api.MaxName]byte
	at := len(b)
	for range api.MaxName {
		if n%nameBase != 0 {
			at--
			b[at] = byteOf(n % nameBase)
		}
		n /= nameBase
	}
	return string(b[at:])
}
