package wal_test

import (
	"bytes"
	"encoding/binary"
	"hash/crc32"
	"math/rand/v2"
	"slices"
	"testing"

	"trellis/api"
	"trellis/disk"
	"trellis/wal"
)

// entry: a record of a book, with the round in which it was appended.
type entry struct {
	api.LogRec
	round int64
}

// book: a second reckoning of a log, with a disk of its own: it keeps all records there ever were, and counts anew each time.
type book struct {
	d                   *disk.Disk
	start, n            int
	round, turn         int64
	head, next, durable int64
	aside               int
	dead                bool
	entries             []entry
}

func (b *book) live() []entry {
	var out []entry
	for _, e := range b.entries {
		if e.Lsn >= b.head {
			out = append(out, e)
		}
	}
	return out
}

func sectorsOf(data []byte) int { return max(1, (len(data)+103)/104) }

func (b *book) stat() api.LogStat {
	used := int(b.next - b.head)
	return api.LogStat{Head: b.head, Next: b.next, Durable: b.durable, Live: used, Reserved: b.aside, Free: b.n - 2 - used - b.aside}
}

func (b *book) records() []api.LogRec {
	var out []api.LogRec
	for _, e := range b.live() {
		if !b.dead {
			out = append(out, e.LogRec)
		}
	}
	return out
}

// place: the disk's sector of an lsn.
func (b *book) place(lsn int64) int { return b.start + 2 + int((lsn-1)%int64(b.n-2)) }

// number: the number at those bytes of a sector.
func number(s []byte, from, to int) uint64 {
	return binary.BigEndian.Uint64(append(make([]byte, 8-(to-from)), s[from:to]...))
}

func (b *book) isHead(s []byte, which uint64) bool {
	in := func(v, most uint64) bool { return v >= 1 && v <= most }
	return number(s, 0, 4) == uint64(crc32.ChecksumIEEE(s[4:])) && in(number(s, 4, 8), uint64(maxRound)) && in(number(s, 8, 16), uint64(maxLsn)) &&
		in(number(s, 16, 24), uint64(maxTurn)) && string(s[24:32]) == "trellis1" && number(s, 32, 36) == uint64(b.n) &&
		in(number(s, 36, 40), number(s, 4, 8)) && number(s, 16, 24)%2 == which
}

// open: as the chapter says, from the newest bytes of the book's disk.
func (b *book) open() api.Errno {
	var best []byte
	for which := range 2 {
		s, code := b.d.Read(b.start + which)
		if code != api.OK {
			return code
		}
		if b.isHead(s, uint64(which)) && (best == nil || number(s, 16, 24) > number(best, 16, 24)) {
			best = s
		}
	}
	if best == nil {
		return api.ErrLogForm
	}
	round, turn, floor := int64(number(best, 4, 8)), int64(number(best, 16, 24)), int64(number(best, 36, 40))
	if round == maxRound || turn == maxTurn {
		return api.ErrLogFull
	}
	head := int64(number(best, 8, 16))
	entries, next := b.find(head, floor, round)
	if code := b.lead(round+1, head, turn+1, floor); code != api.OK {
		return code
	}
	b.round, b.turn, b.head, b.next, b.durable, b.aside, b.dead, b.entries = round+1, turn+1, head, next, next, 0, false, entries
	return api.OK
}

func (b *book) find(head, low, high int64) ([]entry, int64) {
	var out []entry
	p := head
	for p < head+int64(b.n-2) && p <= maxLsn {
		e, ok := b.standsAt(p, head, low, high)
		if !ok {
			break
		}
		out = append(out, e)
		p += int64(sectorsOf(e.Data))
		low = e.round
	}
	return out, p
}

func (b *book) standsAt(p, head, low, high int64) (entry, bool) {
	s, _ := b.d.Read(b.place(p))
	round, kind, length := int64(number(s, 4, 8)), s[16], int(number(s, 20, 24))
	if round < low || round > high || kind == 0 || length > maxBytes {
		return entry{}, false
	}
	k := max(1, (length+103)/104)
	if p-head+int64(k) > int64(b.n-2) || p+int64(k)-1 > maxLsn {
		return entry{}, false
	}
	var data []byte
	for i := range k {
		s, _ := b.d.Read(b.place(p + int64(i)))
		want := partSays{round: uint32(round), lsn: uint64(p) + uint64(i), kind: kind, part: uint16(i), size: uint32(length), payload: s[24:]}
		if !bytes.Equal(s, want.bytes()) {
			return entry{}, false
		}
		data = append(data, s[24:]...)
	}
	return entry{rec(p, int(kind), data[:length]), round}, true
}

// lead: writes a head, and flushes.
func (b *book) lead(round, lsn, turn, floor int64) api.Errno {
	if code := b.d.Write(b.start+int(turn%2), headOf(round, lsn, turn, floor, b.n).bytes()); code != api.OK {
		return code
	}
	return b.d.Flush()
}

func (b *book) append(kind int, data []byte, reserved bool) (int64, api.Errno) {
	k := sectorsOf(data)
	switch {
	case kind < 1 || kind > 255 || len(data) > maxBytes:
		return 0, api.ErrRecord
	case b.dead:
		return 0, api.ErrPower
	case reserved && k > b.aside:
		return 0, api.ErrReserve
	case !reserved && k > b.stat().Free, b.next+int64(k)-1 > maxLsn:
		return 0, api.ErrLogFull
	}
	for i, p := range partsOf(b.round, b.next, kind, data) {
		if code := b.d.Write(b.place(b.next+int64(i)), p.bytes()); code != api.OK {
			b.dead = true
			return 0, code
		}
	}
	b.entries = append(b.entries, entry{rec(b.next, kind, data), b.round})
	b.next += int64(k)
	if reserved {
		b.aside -= k
	}
	return b.next - int64(k), api.OK
}

func (b *book) flush() api.Errno {
	if b.dead {
		return api.ErrPower
	}
	if b.durable == b.next {
		return api.OK
	}
	code := b.d.Flush()
	b.dead = code != api.OK
	if code == api.OK {
		b.durable = b.next
	}
	return code
}

func (b *book) cut(lsn int64) api.Errno {
	floor := int64(0)
	if lsn == b.next {
		floor = b.round
	}
	for _, e := range b.live() {
		if e.Lsn == lsn {
			floor = e.round
		}
	}
	switch {
	case b.dead:
		return api.ErrPower
	case lsn < b.head || lsn > b.durable || floor == 0:
		return api.ErrLsn
	case lsn == b.head:
		return api.OK
	case b.turn == maxTurn || lsn > maxLsn:
		return api.ErrLogFull
	}
	code := b.lead(b.round, lsn, b.turn+1, floor)
	b.dead = code != api.OK
	if code == api.OK {
		b.turn, b.head, b.durable = b.turn+1, lsn, b.next
	}
	return code
}

func (b *book) setAside(n, sign int) api.Errno {
	switch {
	case n < 0:
		return api.ErrArg
	case b.dead:
		return api.ErrPower
	case sign > 0 && n > b.stat().Free:
		return api.ErrLogFull
	case sign < 0 && n > b.aside:
		return api.ErrReserve
	}
	b.aside += sign * n
	return api.OK
}

// pair: a log and its book.
type pair struct {
	t *testing.T
	d *disk.Disk
	l *wal.Log
	b *book
}

// agree: nothing tells the two apart.
func (p *pair) agree(what string) {
	p.t.Helper()
	if got, want := p.l.Stat(), p.b.stat(); got != want {
		p.t.Fatalf("%s: Stat() = %+v, want %+v", what, got, want)
	}
	if got, want := p.l.Records(), p.b.records(); !slices.EqualFunc(got, want, same) {
		p.t.Fatalf("%s: Records() = %v, want %v", what, brief(got), brief(want))
	}
	if got, want := p.d.Stat(), p.b.d.Stat(); got != want {
		p.t.Fatalf("%s: the disk has done %+v, want %+v", what, got, want)
	}
	if !bytes.Equal(p.d.Image(), p.b.d.Image()) {
		p.t.Fatalf("%s: the disk's bytes differ", what)
	}
	pends(p.t, p.d, p.b.d.Pending()...)
}

// open: of both, again and again till there is power.
func (p *pair) open(r *rand.Rand) bool {
	for {
		l, code := wal.Open(p.d, p.b.start, p.b.n)
		want := p.b.open()
		wants(p.t, "Open", code, want)
		if code == api.OK {
			p.l = l
			p.agree("Open")
			return true
		}
		if code != api.ErrPower {
			return false
		}
		p.crash(r)
	}
}

func (p *pair) crash(r *rand.Rand) {
	keep := make([]bool, p.d.Stat().Pending)
	for i := range keep {
		keep[i] = r.IntN(3) > 0
	}
	p.d.Crash(keep)
	p.b.d.Crash(keep)
	if r.IntN(4) == 0 {
		power := r.IntN(20)
		p.d.Cut(power)
		p.b.d.Cut(power)
	}
}

// step: one call of both.
func (p *pair) step(r *rand.Rand) {
	switch r.IntN(12) {
	case 0, 1:
		wants(p.t, "Flush", p.l.Flush(), p.b.flush())
	case 2:
		s := p.b.stat()
		lsn := s.Head - 1 + int64(r.IntN(s.Live+3))
		wants(p.t, "Cut", p.l.Cut(lsn), p.b.cut(lsn))
	case 3:
		for _, e := range p.b.live() {
			if r.IntN(2) == 0 {
				wants(p.t, "Cut", p.l.Cut(e.Lsn), p.b.cut(e.Lsn))
			}
		}
	case 4:
		wants(p.t, "Cut", p.l.Cut(p.b.next), p.b.cut(p.b.next))
	case 5, 6:
		n := r.IntN(6) - 1
		wants(p.t, "Reserve", p.l.Reserve(n), p.b.setAside(n, 1))
	case 7:
		n := r.IntN(5) - 1
		wants(p.t, "Release", p.l.Release(n), p.b.setAside(n, -1))
	case 8:
		if power := r.IntN(30); r.IntN(3) == 0 {
			p.d.Cut(power)
			p.b.d.Cut(power)
		}
	default:
		kind, data, reserved := r.IntN(256), filled(r.IntN(99), r.IntN(1+r.IntN(4)*piece)), r.IntN(2) == 0
		lsn, code := p.l.Append(kind, data, reserved)
		lsn2, code2 := p.b.append(kind, data, reserved)
		if lsn != lsn2 || code != code2 {
			p.t.Fatalf("Append(%d, %d bytes, %v) = %d, %d, want %d, %d", kind, len(data), reserved, lsn, code, lsn2, code2)
		}
	}
	p.agree("a call")
}

// ends: the numbers that a log may have come to: its beginning, and near each of its ends.
var ends = []struct{ round, lsn, turn int64 }{
	{1, 1, 2}, {1, 1, 2}, {maxRound - 9, 7, 4}, {5, maxLsn - 20, 3}, {5, maxLsn - 3, 4}, {9, 1 << 33, maxTurn - 12}, {9, maxLsn, 6}, {maxRound - 3, maxLsn - 9, maxTurn - 9},
}

// TestP304To310AgainstABook: scripts of calls in all orders, held against the second reckoning behind each call, over crashes and openings.
func TestP304To310AgainstABook(t *testing.T) {
	r := rand.New(rand.NewPCG(3, 4))
	for run := range 400 {
		n, start := 4+r.IntN(8), r.IntN(3)
		at := ends[run%len(ends)]
		image := dirty(t, start+n+r.IntN(2)).Image()
		clear(image[start*size : (start+n)*size])
		copy(image[(start+int(at.turn%2))*size:], headOf(at.round, at.lsn, at.turn, 1+int64(r.IntN(int(at.round))), n).bytes())
		p := &pair{t: t, d: crafted(t, image), b: &book{d: crafted(t, image), start: start, n: n}}
		for range 12 {
			if !p.open(r) {
				break
			}
			for range r.IntN(40) {
				p.step(r)
			}
			p.crash(r)
		}
	}
}
