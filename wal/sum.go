package wal

// poly: what is added to the sum's register where a bit falls out of it.
const poly = 0xEDB88320

// halves: what four steps of the register add for each of its low half bytes. Half bytes, not bytes: sixteen entries are enough to be quick.
var halves [16]uint32

func init() {
	for i := range halves {
		r := uint32(i)
		for range 4 {
			r = step(r)
		}
		halves[i] = r
	}
}

// step: the register one bit further.
func step(r uint32) uint32 {
	if r&1 == 1 {
		return r>>1 ^ poly
	}
	return r >> 1
}

// Sum: the checksum (CRC-32) of bytes.
func Sum(b []byte) uint32 {
	r := ^uint32(0)
	for _, x := range b {
		r ^= uint32(x)
		r = r>>4 ^ halves[r&15]
		r = r>>4 ^ halves[r&15]
	}
	return ^r
}
