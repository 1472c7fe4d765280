package disk_test

import (
	"math/rand/v2"
	"testing"

	"trellis/api"
	"trellis/disk"
)

// What became of a write of a history.
const (
	pending = iota
	laid
	lost
)

type event struct {
	at    int
	data  []byte
	state int
}

// history: a second reckoning: all writes there ever were, each with what became of it; what a disk holds is looked up there anew each time.
type history struct {
	sectors  int
	events   []event
	left     int // operations till the power goes; below 0: it does not
	off      bool
	operated [2]int
}

func (h *history) holds(at, upTo int) []byte {
	out := all(0)
	for _, e := range h.events {
		if e.at == at && e.state != lost && (e.state == laid || upTo == pending) {
			out = e.data
		}
	}
	return out
}

func (h *history) operate(kind int) api.Errno {
	if h.off {
		return api.ErrPower
	}
	if h.left == 0 {
		h.off = true
		return api.ErrPower
	}
	h.left--
	h.operated[kind]++
	return api.OK
}

func (h *history) write(at int, data []byte) api.Errno {
	if at < 0 || at >= h.sectors {
		return api.ErrSector
	}
	if len(data) != 128 {
		return api.ErrSize
	}
	code := h.operate(0)
	if code == api.OK {
		h.events = append(h.events, event{at, data, pending})
	}
	return code
}

func (h *history) flush() api.Errno {
	code := h.operate(1)
	if code == api.OK {
		h.settle(func(int) bool { return true })
	}
	return code
}

func (h *history) cut(after int) api.Errno {
	if after < 0 {
		return api.ErrArg
	}
	if h.off {
		return api.ErrPower
	}
	h.left = after
	return api.OK
}

func (h *history) crash(keep []bool) int {
	h.off, h.left = false, -1
	return h.settle(func(i int) bool { return i < len(keep) && keep[i] })
}

// settle: each pending write is laid or lost from now on.
func (h *history) settle(keeps func(int) bool) int {
	i, kept := 0, 0
	for j := range h.events {
		if h.events[j].state != pending {
			continue
		}
		h.events[j].state = lost
		if keeps(i) {
			h.events[j].state = laid
			kept++
		}
		i++
	}
	return kept
}

func (h *history) pends() []api.SectorWrite {
	var out []api.SectorWrite
	for _, e := range h.events {
		if e.state == pending {
			out = append(out, api.SectorWrite{At: e.at, Data: e.data})
		}
	}
	return out
}

func (h *history) stat() api.DiskStat {
	return api.DiskStat{Writes: h.operated[0], Flushes: h.operated[1], Pending: len(h.pends()), Down: h.off}
}

func someKeep(r *rand.Rand) []bool {
	keep := make([]bool, r.IntN(8))
	for i := range keep {
		keep[i] = r.IntN(2) == 0
	}
	return keep
}

// TestP202ToP207AgainstHistory: scripts of calls in all orders, held against the second reckoning behind each call.
func TestP202ToP207AgainstHistory(t *testing.T) {
	r := rand.New(rand.NewPCG(2, 1))
	for range 300 {
		n := 1 + r.IntN(4)
		d := made(t, n)
		h := &history{sectors: n, left: -1}
		for range 60 {
			switch r.IntN(12) {
			case 0, 1:
				wants(t, "Flush", d.Flush(), h.flush())
			case 2:
				after := r.IntN(9) - 1
				wants(t, "Cut", d.Cut(after), h.cut(after))
			case 3:
				keep := someKeep(r)
				crashes(t, d, keep, h.crash(keep))
			case 4:
				at, size := r.IntN(n+2)-1, r.IntN(130)
				wants(t, "Write", d.Write(at, make([]byte, size)), h.write(at, make([]byte, size)))
			default:
				at, data := r.IntN(n), ramp(byte(r.Uint32()))
				wants(t, "Write", d.Write(at, data), h.write(at, data))
			}
			compare(t, h, d)
			if t.Failed() {
				return
			}
		}
	}
}

func compare(t *testing.T, h *history, d *disk.Disk) {
	t.Helper()
	var image []byte
	for at := range h.sectors {
		image = append(image, h.holds(at, laid)...)
		if h.off {
			refuses(t, d, at, api.ErrPower)
		} else {
			reads(t, d, at, h.holds(at, pending))
		}
	}
	images(t, d, image)
	pends(t, d, h.pends()...)
	stats(t, d, h.stat())
}
