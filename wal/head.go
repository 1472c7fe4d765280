package wal

import "trellis/api"

// The bounds of what a head says.
const (
	maxLsn   = 1 << 40
	maxTurn  = 1 << 40
	maxRound = 1<<31 - 1
)

// magic: what tells a head from other sectors.
const magic = "trellis1"

// head: where a log begins. Of the two that may be there the one of the greater turn holds: while one is written, the other is whole.
type head struct {
	round int64
	lsn   int64
	turn  int64
	floor int64 // the least round that a record from lsn on can have
}

// home: the sector of the area on which a head of that turn stands.
func (h head) home() int {
	return int(h.turn % heads)
}

// sector: the bytes of the head of a log with n sectors.
func (h head) sector(n int) []byte {
	b := make([]byte, api.SectorSize)
	lay(b[4:8], h.round)
	lay(b[8:16], h.lsn)
	lay(b[16:24], h.turn)
	copy(b[24:32], magic)
	lay(b[32:36], int64(n))
	lay(b[36:40], h.floor)
	seal(b)
	return b
}

// headOf: the head that the bytes say, and whether it is one of a log with n sectors.
func headOf(b []byte, n int) (head, bool) {
	if !sealed(b) || string(b[24:32]) != magic || number(b[32:36]) != int64(n) {
		return head{}, false
	}
	h := head{
		round: number(b[4:8]),
		lsn:   number(b[8:16]),
		turn:  number(b[16:24]),
		floor: number(b[36:40]),
	}
	return h, within(h.round, maxRound) && within(h.lsn, maxLsn) && within(h.turn, maxTurn) && within(h.floor, h.round)
}

// within: is the number one of 1 .. most?
func within(v, most int64) bool {
	return v >= 1 && v <= most
}

// readHead: the head that holds.
func (a area) readHead() (head, api.Errno) {
	best := head{}
	for i := range heads {
		b, code := a.disk.Read(a.start + i)
		if code != api.OK {
			return head{}, code
		}
		if h, ok := headOf(b, a.n); ok && h.home() == i && h.turn > best.turn {
			best = h
		}
	}
	if best.turn == 0 {
		return head{}, api.ErrLogForm
	}
	return best, api.OK
}

// writeHead: the head holds from now on, and lasts.
func (a area) writeHead(h head) api.Errno {
	if code := a.disk.Write(a.start+h.home(), h.sector(a.n)); code != api.OK {
		return code
	}
	return a.disk.Flush()
}
