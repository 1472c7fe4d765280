package wal

import "trellis/api"

// search: a search for the records that stand under a head.
type search struct {
	area area
	head head
	lsn  int64 // where the next record would begin
	low  int64 // the least round that it can have: rounds don't fall along the log
}

// standing: the records that stand under the head.
func (a area) standing(h head) ([]record, api.Errno) {
	s := search{area: a, head: h, lsn: h.lsn, low: h.floor}
	var found []record
	for {
		r, ok, code := s.next()
		if code != api.OK {
			return nil, code
		}
		if !ok {
			return found, api.OK
		}
		found = append(found, r)
		s.lsn, s.low = r.end(), r.round
	}
}

// limit: the lsn behind the last sector that the log can have while it begins at its head.
func (s search) limit() int64 {
	return min(s.head.lsn+int64(s.area.ring()), maxLsn+1)
}

// next: the record that begins where the search is, if one stands there.
func (s search) next() (record, bool, api.Errno) {
	b, code := s.area.disk.Read(s.area.at(s.lsn))
	if code != api.OK {
		return record{}, false, code
	}
	m := markOf(b)
	if !s.fits(m) {
		return record{}, false, api.OK
	}
	r := record{round: m.round, lsn: s.lsn, kind: int(m.kind), data: make([]byte, m.size)}
	ok, code := r.read(s.area)
	return r, ok, code
}

// fits: can a record have that round, that kind and that size where the search is? What else its mark must say, read looks at.
func (s search) fits(m mark) bool {
	return m.round >= s.low && m.round <= s.head.round && m.kind >= 1 &&
		m.size <= api.MaxPayload && s.lsn+int64(Need(int(m.size))) <= s.limit()
}

// read: fills the record's data from its sectors, and says whether each of them is one of it.
func (r record) read(a area) (bool, api.Errno) {
	for i := range r.need() {
		m := r.mark(i)
		b, code := a.disk.Read(a.at(m.lsn))
		if code != api.OK || markOf(b) != m {
			return false, code
		}
		copy(r.data[i*piece:], b[api.FrameHead:])
	}
	return true, api.OK
}
