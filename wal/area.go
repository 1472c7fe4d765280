package wal

import (
	"trellis/api"
	"trellis/disk"
)

// heads: the sectors ahead of the ring.
const heads = 2

// area: the sectors of a disk on which a log lies: those of its heads, then its ring.
type area struct {
	disk  *disk.Disk
	start int
	n     int
}

// fits: can a log lie there? The sum of start and n is not made: it may be beyond the range.
func (a area) fits() bool {
	return a.disk != nil && a.start >= 0 && a.n >= api.MinLog && a.start <= a.disk.Sectors()-a.n
}

func (a area) ring() int {
	return a.n - heads
}

// at: the disk's sector on which the one with that lsn stands.
func (a area) at(lsn int64) int {
	return a.start + heads + int((lsn-1)%int64(a.ring()))
}

// blank: zero bytes on the area's sectors from .. to-1; they last.
func (a area) blank(from, to int) api.Errno {
	for i := range to - from {
		if code := a.disk.Write(a.start+from+i, make([]byte, api.SectorSize)); code != api.OK {
			return code
		}
	}
	return a.disk.Flush()
}
