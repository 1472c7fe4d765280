package wal_test

import (
	"bytes"
	"encoding/binary"
	"math/rand/v2"
	"slices"
	"testing"

	"trellis/api"
	"trellis/disk"
	"trellis/wal"
)

// witness: what may be found behind a crash: under one of the heads, the records that were flushed, and a first part of the later ones.
type witness struct {
	heads   []int64
	durable []api.LogRec
	later   []api.LogRec
}

func from(head int64, rs []api.LogRec) []api.LogRec {
	var out []api.LogRec
	for _, r := range rs {
		if r.Lsn >= head {
			out = append(out, r)
		}
	}
	return out
}

// allows: may just these records be found?
func (w *witness) allows(found []api.LogRec) bool {
	for _, h := range w.heads {
		all := from(h, slices.Concat(w.durable, w.later))
		least := len(from(h, w.durable))
		if len(found) >= least && len(found) <= len(all) && slices.EqualFunc(found, all[:len(found)], same) {
			return true
		}
	}
	return false
}

func (w *witness) flushed() {
	w.durable = append(w.durable, w.later...)
	w.later = nil
}

// world: a disk with a log of n sectors at 1, and its witness.
type world struct {
	t     *testing.T
	r     *rand.Rand
	d     *disk.Disk
	n     int
	l     *wal.Log
	w     witness
	count uint32 // of payloads: each has its number
}

func (x *world) payload() []byte {
	x.count++
	data := filled(int(x.count), x.r.IntN(min(x.n-2, 3)*piece+1))
	if x.r.IntN(2) == 0 {
		data = filled(7, 104)
	}
	if len(data) >= 4 {
		binary.BigEndian.PutUint32(data, x.count)
		return data
	}
	return binary.BigEndian.AppendUint32(nil, x.count)
}

// act: a call of the log, told to the witness.
func (x *world) act() {
	switch x.r.IntN(7) {
	default:
		kind, data := 1+x.r.IntN(2), x.payload()
		if lsn, code := x.l.Append(kind, data, false); code == api.OK {
			x.w.later = append(x.w.later, rec(lsn, kind, data))
		}
	case 0, 1:
		if x.l.Flush() == api.OK {
			x.w.flushed()
		}
	case 2, 3:
		x.cut()
	}
}

func (x *world) cut() {
	s := x.l.Stat()
	places := []int64{s.Head, s.Next}
	for _, r := range x.l.Records() {
		places = append(places, r.Lsn)
	}
	lsn := places[x.r.IntN(len(places))]
	switch code := x.l.Cut(lsn); code {
	case api.OK:
		if lsn != s.Head {
			x.w.flushed()
		}
		x.w.heads = []int64{lsn}
		x.w.durable = from(lsn, x.w.durable)
	case api.ErrPower:
		if lsn <= s.Durable {
			x.w.heads = append(x.w.heads, lsn)
		}
	}
}

func (x *world) crash() {
	keep := make([]bool, x.d.Stat().Pending)
	for i := range keep {
		keep[i] = x.r.IntN(3) > 0
	}
	x.d.Crash(keep)
}

// revive: opens the log; the power may go in the midst, some times.
func (x *world) revive() {
	for range x.r.IntN(3) {
		before := x.wouldFind()
		x.d.Cut(x.r.IntN(2))
		wal.Open(x.d, 1, x.n)
		x.crash()
		if !slices.EqualFunc(before, x.wouldFind(), same) {
			x.t.Fatalf("an opening that broke off changes what is found: %v, then %v", brief(before), brief(x.wouldFind()))
		}
	}
	x.l = opens(x.t, x.d, 1, x.n)
	found := x.l.Records()
	if !x.w.allows(found) {
		x.t.Fatalf("found %v; flushed were %v, later came %v, the heads are %v", brief(found), brief(x.w.durable), brief(x.w.later), x.w.heads)
	}
	x.w = witness{heads: []int64{x.l.Stat().Head}, durable: found}
}

// wouldFind: what an Open of a copy of the disk finds.
func (x *world) wouldFind() []api.LogRec {
	d, code := disk.Load(x.d.Image())
	wants(x.t, "Load", code, api.OK)
	return opens(x.t, d, 1, x.n).Records()
}

// begun: a world with a log that was just opened, on a disk whose other sectors have bytes of their own.
func begun(t *testing.T, r *rand.Rand) *world {
	t.Helper()
	n := 4 + r.IntN(6)
	x := &world{t: t, r: r, d: formatted(t, n+3, 1, n), n: n, w: witness{heads: []int64{1}}}
	x.l = opens(t, x.d, 1, n)
	return x
}

// TestP311To313Lives: crashes without end, each at any act of the disk, keeping any of the unflushed writes.
func TestP311To313Lives(t *testing.T) {
	r := rand.New(rand.NewPCG(3, 11))
	for range 300 {
		x := begun(t, r)
		for range 30 {
			if r.IntN(4) > 0 {
				x.d.Cut(r.IntN(14))
			}
			for range 1 + r.IntN(12) {
				x.act()
			}
			x.crash()
			x.revive()
			outsideStays(t, x.d, x.n)
		}
	}
}

// outsideStays: P312, of a log of n sectors at 1 on a disk that formatted made with n+3 sectors.
func outsideStays(t *testing.T, d *disk.Disk, n int) {
	t.Helper()
	was := dirty(t, n+3).Image()
	now := d.Image()
	if !bytes.Equal(was[:size], now[:size]) || !bytes.Equal(was[(n+1)*size:], now[(n+1)*size:]) {
		t.Fatalf("a sector outside the log was written")
	}
	for _, w := range d.Pending() {
		if w.At < 1 || w.At > n {
			t.Fatalf("a write to sector %d, outside the log, is pending", w.At)
		}
	}
}

// script: some calls of a log of ten sectors; what it tells the witness is right whenever the power goes.
func script(x *world) {
	add := func(kind, n int) {
		if lsn, code := x.l.Append(kind, filled(kind, n), false); code == api.OK {
			x.w.later = append(x.w.later, rec(lsn, kind, filled(kind, n)))
		}
	}
	flush := func() {
		if x.l.Flush() == api.OK {
			x.w.flushed()
		}
	}
	cut := func(lsn int64) {
		if x.l.Cut(lsn) == api.OK {
			x.w.flushed()
			x.w.heads, x.w.durable = []int64{lsn}, from(lsn, x.w.durable)
		} else if x.l.Stat().Durable >= lsn {
			x.w.heads = append(x.w.heads, lsn)
		}
	}
	add(1, 150) // 1, 2
	add(2, 0)   // 3
	flush()
	add(3, 105) // 4, 5
	add(4, 104) // 6
	cut(3)
	add(5, 250) // 7, 8, 9: round the ring's end
	flush()
	cut(7)
	add(6, 0)
	add(7, 209)
	add(8, 1)
}

// TestP311EveryLoss: the power goes at each act of the script, and each choice of the unflushed writes is kept.
func TestP311EveryLoss(t *testing.T) {
	for power := range 30 {
		for mask := 0; ; mask++ {
			x := &world{t: t, r: rand.New(rand.NewPCG(1, 1)), d: formatted(t, 13, 1, 10), n: 10, w: witness{heads: []int64{1}}}
			x.l = opens(t, x.d, 1, 10)
			x.d.Cut(power)
			script(x)
			pending := x.d.Stat().Pending
			if mask>>pending > 0 {
				break
			}
			var keep []bool
			for i := range pending {
				keep = append(keep, mask>>i&1 == 1)
			}
			x.d.Crash(keep)
			l := opens(t, x.d, 1, 10)
			if !x.w.allows(l.Records()) {
				t.Fatalf("power for %d acts, %v kept: found %v; flushed were %v, later came %v, the heads are %v", power, keep, brief(l.Records()), brief(x.w.durable), brief(x.w.later), x.w.heads)
			}
			outsideStays(t, x.d, 10)
		}
	}
}

// TestP311NoGap: of the unflushed records just those ahead of the first loss are found.
func TestP311NoGap(t *testing.T) {
	for mask := range 1 << 6 {
		d, l := fresh(t, 8)
		want := []api.LogRec{rec(1, 1, nil), rec(2, 2, nil), rec(3, 3, filled(3, 150)), rec(5, 4, nil), rec(6, 5, nil)}
		for _, r := range want {
			appends(t, l, r.Kind, r.Data, false, r.Lsn)
		}
		var keep []bool
		first := 6
		for i := range 6 {
			keep = append(keep, mask>>i&1 == 1)
			if mask>>i&1 == 0 && first == 6 {
				first = i
			}
		}
		d.Crash(keep)
		holds(t, opens(t, d, 1, 8), want[:[]int{0, 1, 2, 2, 3, 4, 5}[first]]...)
	}
}

// TestP311LostRounds: what a lost round left at the very place is not taken up, though lengths and payloads would fit.
func TestP311LostRounds(t *testing.T) {
	d := formatted(t, 8, 0, 8)
	l := opens(t, d, 0, 8)
	for i := range int64(5) {
		appends(t, l, 1, nil, false, i+1)
	}
	d.Crash([]bool{false, true, true, true, true})
	for i := range int64(5) {
		l = opens(t, d, 0, 8)
		if i == 0 {
			holds(t, l)
		}
		appends(t, l, 1, nil, false, i+1)
		wants(t, "Flush", l.Flush(), api.OK)
		d.Crash(nil)
		l = opens(t, d, 0, 8)
		stands(t, l, 1, i+2, i+2, 0, 5-int(i))
	}
}

// TestP311CutToNextBehindALostRound: the floor keeps the lost sectors out where the log begins with none.
func TestP311CutToNextBehindALostRound(t *testing.T) {
	d := formatted(t, 8, 0, 8)
	l := opens(t, d, 0, 8)
	appends(t, l, 1, nil, false, 1)
	appends(t, l, 2, nil, false, 2)
	appends(t, l, 3, nil, false, 3)
	d.Crash([]bool{false, true, true})
	l = opens(t, d, 0, 8)
	appends(t, l, 4, nil, false, 1)
	wants(t, "Flush", l.Flush(), api.OK)
	wants(t, "Cut", l.Cut(2), api.OK)
	d.Crash(nil)
	l = opens(t, d, 0, 8)
	holds(t, l)
	stands(t, l, 2, 2, 2, 0, 6)
}

// TestP313OpeningTwice: with an opening ahead that the power broke off anywhere, or behind which the disk crashed.
func TestP313OpeningTwice(t *testing.T) {
	for power := range 3 {
		for _, keep := range []bool{false, true} {
			d, l := fresh(t, 10)
			want := []api.LogRec{rec(2, 2, filled(2, 250)), rec(5, 3, nil)}
			appends(t, l, 1, nil, false, 1)
			appends(t, l, 2, filled(2, 250), false, 2)
			appends(t, l, 3, nil, false, 5)
			wants(t, "Flush", l.Flush(), api.OK)
			wants(t, "Cut", l.Cut(2), api.OK)
			for range 7 {
				d.Cut(power)
				if l, code := wal.Open(d, 1, 10); code == api.OK {
					holds(t, l, want...)
				}
				d.Crash([]bool{keep})
			}
			l = opens(t, d, 1, 10)
			holds(t, l, want...)
			stands(t, l, 2, 6, 6, 0, 4)
		}
	}
}

// TestP314SpoiltBits: each bit of each sector of the ring.
func TestP314SpoiltBits(t *testing.T) {
	d, l := fresh(t, 10)
	appends(t, l, 1, filled(1, 300), false, 1)
	appends(t, l, 2, filled(2, 300), false, 4)
	wants(t, "Flush", l.Flush(), api.OK)
	wants(t, "Cut", l.Cut(4), api.OK)
	appends(t, l, 3, nil, false, 7)
	appends(t, l, 4, filled(4, 130), false, 8)
	wants(t, "Flush", l.Flush(), api.OK)
	want := []api.LogRec{rec(4, 2, filled(2, 300)), rec(7, 3, nil), rec(8, 4, filled(4, 130))}
	ahead := []int{2, 3, 3, 0, 0, 0, 1, 2} // of the ring's sectors: how many records lie ahead of the one that it belongs to
	holds(t, opens(t, d, 1, 10), want...)
	image := d.Image()
	for sector, n := range ahead {
		for bit := range 8 * size {
			spoilt := bytes.Clone(image)
			spoilt[(3+sector)*size+bit/8] ^= 1 << (bit % 8)
			holds(t, opens(t, crafted(t, spoilt), 1, 10), want[:n]...)
		}
	}
}
