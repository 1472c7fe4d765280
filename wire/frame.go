package wire

// The parts of a frame.
const (
	firstMark  = 0xA5
	secondMark = 0x5A
	maxKind    = 255
	headSize   = 8 // the mark, the kind, the length and the head's sum
	tailSize   = 4 // the whole sum
)

// framed: the frame with that kind and that body.
func framed(kind byte, body []byte) []byte {
	n := len(body)
	out := make([]byte, 0, headSize+n+tailSize)
	out = append(out, firstMark, secondMark, kind, byte(n>>16), byte(n>>8), byte(n))
	head := headSum(out)
	out = append(out, head[:]...)
	out = append(out, body...)
	whole := wholeSum(out)
	return append(out, whole[:]...)
}

// bodySize: how long the body is, as the head at the front of b says.
func bodySize(b []byte) int {
	return int(b[3])<<16 | int(b[4])<<8 | int(b[5])
}

// headSum: the sum of a frame's head, of which b has six bytes at least.
func headSum(b []byte) [2]byte {
	c, d := 0, 0
	for _, x := range b[2:6] {
		c = (c + int(x)) % 255
		d = (d + c) % 255
	}
	return [2]byte{byte(d), byte(c)}
}

// wholeSum: the sum of all of a frame; b is the frame without that sum.
func wholeSum(b []byte) [4]byte {
	lo, hi := uint32(1), uint32(0)
	for _, x := range b[2:] {
		lo = (lo + uint32(x)) % 65521
		hi = (hi + lo) % 65521
	}
	return [4]byte{byte(hi >> 8), byte(hi), byte(lo >> 8), byte(lo)}
}
