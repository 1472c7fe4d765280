package pages

import (
	"trellis/api"
	"trellis/wal"
)

// sumBytes: where a sector's sum ends, and what it is the sum of begins.
const sumBytes = 4

// lay: the number as bytes, highest first, as many as there is room for.
func lay(b []byte, v int) {
	for i := range b {
		b[len(b)-1-i] = byte(v >> (8 * i))
	}
}

// number: what lay laid.
func number(b []byte) int {
	v := 0
	for _, x := range b {
		v = v<<8 | int(x)
	}
	return v
}

// seal: lays the sum of the sector's other bytes ahead of them.
func seal(b []byte) {
	lay(b[:sumBytes], int(wal.Sum(b[sumBytes:])))
}

// sealed: is the sector's sum right?
func sealed(b []byte) bool {
	return len(b) == api.SectorSize && number(b[:sumBytes]) == int(wal.Sum(b[sumBytes:]))
}
