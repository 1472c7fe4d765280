package disk

import "trellis/api"

// sector: an array, so that an assignment copies all of it and no two places share its bytes.
type sector [api.SectorSize]byte

// write: an entry of its own for each one, since a crash may keep the earlier of two writes to one sector and lose the later.
type write struct {
	at   int
	data sector
}

// sectorOf: the first bytes of data, of which there are enough.
func sectorOf(data []byte) sector {
	var s sector
	copy(s[:], data)
	return s
}

// bytes: new memory, so that the caller may write into it.
func (s sector) bytes() []byte {
	out := make([]byte, len(s))
	copy(out, s[:])
	return out
}

// has: is there a sector of that number?
func (d *Disk) has(at int) bool {
	return at >= 0 && at < len(d.laid)
}

// newest: looked for from the end on, since of several pending writes to a sector the last one counts.
func (d *Disk) newest(at int) sector {
	for i := len(d.pending) - 1; i >= 0; i-- {
		if d.pending[i].at == at {
			return d.pending[i].data
		}
	}
	return d.laid[at]
}
