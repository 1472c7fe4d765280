package wal

import "trellis/api"

// piece: payload bytes of one sector.
const piece = api.SectorSize - api.FrameHead

const maxKind = 255

// Need: the sectors of a record with so many bytes of payload; 0 where there is no such record.
func Need(bytes int) int {
	if bytes < 0 || bytes > api.MaxPayload {
		return 0
	}
	return max(1, (bytes+piece-1)/piece)
}

// mark: what a record's sector says ahead of its payload.
type mark struct {
	round int64
	lsn   int64
	kind  int64
	blank int64
	part  int64
	size  int64 // payload bytes of the whole record
}

// markOf: what the sector's bytes say. One whose sum is wrong says nothing: its kind and its lsn are 0, which no record has.
func markOf(b []byte) mark {
	if !sealed(b) {
		return mark{}
	}
	return mark{
		round: number(b[4:8]),
		lsn:   number(b[8:16]),
		kind:  number(b[16:17]),
		blank: number(b[17:18]),
		part:  number(b[18:20]),
		size:  number(b[20:24]),
	}
}

// sector: the bytes of a sector with that mark and as much of the payload as there is room for.
func (m mark) sector(payload []byte) []byte {
	b := make([]byte, api.SectorSize)
	lay(b[4:8], m.round)
	lay(b[8:16], m.lsn)
	lay(b[16:17], m.kind)
	lay(b[17:18], m.blank)
	lay(b[18:20], m.part)
	lay(b[20:24], m.size)
	copy(b[api.FrameHead:], payload)
	seal(b)
	return b
}

// record: a record that is live. Its round is wanted as the floor of a head that begins with it.
type record struct {
	round int64
	lsn   int64
	kind  int
	data  []byte
}

func (r record) need() int {
	return Need(len(r.data))
}

// end: the lsn behind the record.
func (r record) end() int64 {
	return r.lsn + int64(r.need())
}

// mark: that of the record's sector i.
func (r record) mark(i int) mark {
	return mark{round: r.round, lsn: r.lsn + int64(i), kind: int64(r.kind), part: int64(i), size: int64(len(r.data))}
}

// write: lays the record's sectors on the ring, rising, up to the first that the disk refuses.
func (r record) write(a area) api.Errno {
	for i := range r.need() {
		m := r.mark(i)
		if code := a.disk.Write(a.at(m.lsn), m.sector(r.data[i*piece:])); code != api.OK {
			return code
		}
	}
	return api.OK
}
