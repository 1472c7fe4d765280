package wal

import "trellis/api"

// sumBytes: where a sector's sum ends, and what it is the sum of begins.
const sumBytes = 4

// lay: the number as bytes, highest first, as many as there is room for.
func lay(b []byte, v int64) {
	for i := range b {
		b[len(b)-1-i] = byte(v >> (8 * i))
	}
}

// number: what lay laid. A number of eight bytes that is beyond the range is below 0: so it lies in no bounds, and is no lsn.
func number(b []byte) int64 {
	v := int64(0)
	for _, x := range b {
		v = v<<8 | int64(x)
	}
	return v
}

// seal: lays the sum of the sector's other bytes ahead of them.
func seal(b []byte) {
	lay(b[:sumBytes], int64(Sum(b[sumBytes:])))
}

// sealed: is the sector's sum right?
func sealed(b []byte) bool {
	return len(b) == api.SectorSize && number(b[:sumBytes]) == int64(Sum(b[sumBytes:]))
}
