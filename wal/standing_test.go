package wal_test

import (
	"math"
	"testing"

	"trellis/api"
	"trellis/disk"
	"trellis/wal"
)

// laid: a sector of a record, and the lsn at whose place it stands.
type laid struct {
	at   int64
	part partSays
}

// lay: the sectors of a record at their places.
func lay(round, lsn int64, kind int, data []byte) []laid {
	var out []laid
	for i, p := range partsOf(round, lsn, kind, data) {
		out = append(out, laid{lsn + int64(i), p})
	}
	return out
}

func joined(parts ...[]laid) []laid {
	var out []laid
	for _, p := range parts {
		out = append(out, p...)
	}
	return out
}

// ringed: a disk with one sector, then a log with that head (whose turn is 2) and those sectors on its ring, the others zero.
func ringed(t *testing.T, h headSays, ls []laid) *disk.Disk {
	t.Helper()
	sectors := [][]byte{filled(1, size), h.bytes()}
	for range h.n - 1 {
		sectors = append(sectors, zeros())
	}
	for _, l := range ls {
		sectors[3+(l.at-1)%int64(h.n-2)] = l.part.bytes()
	}
	return crafted(t, sectors...)
}

// found: what an Open of such a disk finds.
func found(t *testing.T, h headSays, ls []laid, want ...api.LogRec) {
	t.Helper()
	d := ringed(t, h, ls)
	next := int64(h.lsn)
	for _, r := range want {
		next = r.Lsn + int64(wal.Need(len(r.Data)))
	}
	l := opens(t, d, 1, int(h.n))
	holds(t, l, want...)
	stands(t, l, int64(h.lsn), next, next, 0, int(h.n)-2-int(next-int64(h.lsn)))
}

// TestP305Standing: ordinary logs, begun anywhere on the ring.
func TestP305Standing(t *testing.T) {
	a, b, c := filled(1, 250), filled(2, 0), filled(3, 104)
	for h := int64(1); h < 20; h++ {
		head := headOf(9, h, 2, 4, 8)
		all := joined(lay(4, h, 1, a), lay(4, h+3, 255, b), lay(9, h+4, 7, c))
		found(t, head, all, rec(h, 1, a), rec(h+3, 255, b), rec(h+4, 7, c))
		found(t, head, all[:4], rec(h, 1, a), rec(h+3, 255, b))
		found(t, head, all[:3], rec(h, 1, a))
		found(t, head, all[:2])
		found(t, head, all[1:])
		found(t, head, nil)
		whole := filled(4, 6*piece)
		found(t, head, lay(5, h, 3, whole), rec(h, 3, whole))
		found(t, head, lay(5, h, 3, whole[:6*piece-1]), rec(h, 3, whole[:6*piece-1]))
		found(t, head, lay(5, h, 3, whole[:5*piece+1]), rec(h, 3, whole[:5*piece+1]))
		var six []laid
		var want []api.LogRec
		for i := range int64(6) {
			six = append(six, lay(5, h+i, int(i)+1, filled(int(i), int(i)))...)
			want = append(want, rec(h+i, int(i)+1, filled(int(i), int(i))))
		}
		found(t, head, six, want...)
	}
}

// TestP305WhatBeginsARecord: each field of the first sector at its bounds and beyond them.
func TestP305WhatBeginsARecord(t *testing.T) {
	head := headOf(9, 11, 2, 4, 8)
	for i, c := range []struct {
		turn func(*partSays)
		ok   bool
	}{
		{func(p *partSays) {}, true},
		{func(p *partSays) { p.turnedInSum = 1 }, false},
		{func(p *partSays) { p.turnedInSum = 1 << 31 }, false},
		{func(p *partSays) { p.round = 3 }, false},
		{func(p *partSays) { p.round = 4 }, true},
		{func(p *partSays) { p.round = 9 }, true},
		{func(p *partSays) { p.round = 10 }, false},
		{func(p *partSays) { p.round = 0 }, false},
		{func(p *partSays) { p.round = math.MaxUint32 }, false},
		{func(p *partSays) { p.lsn = 10 }, false},
		{func(p *partSays) { p.lsn = 12 }, false},
		{func(p *partSays) { p.lsn = 5 }, false},
		{func(p *partSays) { p.lsn = 17 }, false},
		{func(p *partSays) { p.lsn = 1<<63 + 11 }, false},
		{func(p *partSays) { p.lsn = 1<<32 + 11 }, false},
		{func(p *partSays) { p.kind = 0 }, false},
		{func(p *partSays) { p.kind = 1 }, true},
		{func(p *partSays) { p.kind = 255 }, true},
		{func(p *partSays) { p.blank = 1 }, false},
		{func(p *partSays) { p.blank = 255 }, false},
		{func(p *partSays) { p.part = 1 }, false},
		{func(p *partSays) { p.part = 256 }, false},
		{func(p *partSays) { p.size = 105 }, false},
		{func(p *partSays) { p.size = 1<<16 + 50 }, false},
		{func(p *partSays) { p.size = 1<<31 + 50 }, false},
		{func(p *partSays) { p.size = 104; p.payload = filled(6, 104) }, true},
		{func(p *partSays) { p.size = 0; p.payload = nil }, true},
		{func(p *partSays) { p.size = 0; p.payload = nil; p.tail = 7 }, true},
		{func(p *partSays) { p.tail = 7 }, true},
	} {
		p := partsOf(6, 11, 5, filled(6, 50))[0]
		c.turn(&p)
		ls := []laid{{11, p}}
		if c.ok {
			behind := lay(9, 12, 8, filled(7, 9))
			found(t, head, ls, rec(11, int(p.kind), p.payload))
			found(t, head, joined(ls, behind), rec(11, int(p.kind), p.payload), rec(12, 8, filled(7, 9)))
		} else {
			found(t, head, ls)
			found(t, head, joined(ls, lay(9, 12, 8, filled(7, 9))))
			found(t, head, joined(ls, lay(9, 12, 8, filled(7, 9)), lay(9, 13, 8, nil)))
		}
		if t.Failed() {
			t.Fatalf("at sector %d", i)
		}
	}
}

// TestP305WhatGoesOnWithARecord: each field of a later sector must be the record's own.
func TestP305WhatGoesOnWithARecord(t *testing.T) {
	head := headOf(9, 11, 2, 4, 8)
	data := filled(6, 3*piece-10)
	for i, c := range []struct {
		turn func(*partSays)
		ok   bool
	}{
		{func(p *partSays) {}, true},
		{func(p *partSays) { p.turnedInSum = 1 }, false},
		{func(p *partSays) { p.round-- }, false},
		{func(p *partSays) { p.round++ }, false},
		{func(p *partSays) { p.lsn-- }, false},
		{func(p *partSays) { p.lsn++ }, false},
		{func(p *partSays) { p.lsn += 6 }, false},
		{func(p *partSays) { p.lsn += 1 << 63 }, false},
		{func(p *partSays) { p.kind-- }, false},
		{func(p *partSays) { p.kind++ }, false},
		{func(p *partSays) { p.kind = 0 }, false},
		{func(p *partSays) { p.blank = 1 }, false},
		{func(p *partSays) { p.part = 0 }, false},
		{func(p *partSays) { p.part-- }, false},
		{func(p *partSays) { p.part++ }, false},
		{func(p *partSays) { p.part += 256 }, false},
		{func(p *partSays) { p.size-- }, false},
		{func(p *partSays) { p.size++ }, false},
		{func(p *partSays) { p.size += 1 << 31 }, false},
	} {
		for which := 1; which < 3; which++ {
			ls := joined(lay(6, 11, 5, data), lay(9, 14, 8, nil))
			c.turn(&ls[which].part)
			if c.ok {
				found(t, head, ls, rec(11, 5, data), rec(14, 8, nil))
			} else {
				found(t, head, ls)
				first := joined(lay(6, 11, 5, data), lay(6, 14, 5, filled(8, 150)))
				c.turn(&first[4].part)
				found(t, head, first, rec(11, 5, data))
			}
			if t.Failed() {
				t.Fatalf("at sector %d", i)
			}
		}
	}
	ls := lay(6, 11, 5, data)
	ls[2].part.tail = 9
	found(t, head, ls, rec(11, 5, data))
}

// TestP305RoundsDontFall: along the log, from the floor up to the head's round.
func TestP305RoundsDontFall(t *testing.T) {
	head := headOf(9, 11, 2, 4, 8)
	log := func(rounds ...int64) []laid {
		var out []laid
		for i, r := range rounds {
			out = append(out, lay(r, 11+int64(i), i+1, nil)...)
		}
		return out
	}
	want := []api.LogRec{rec(11, 1, nil), rec(12, 2, nil), rec(13, 3, nil), rec(14, 4, nil)}
	for _, c := range []struct {
		rounds []int64
		n      int
	}{
		{[]int64{4, 4, 4, 4}, 4}, {[]int64{9, 9, 9, 9}, 4}, {[]int64{4, 5, 8, 9}, 4}, {[]int64{5, 5, 9, 9}, 4},
		{[]int64{3, 5, 8, 9}, 0}, {[]int64{5, 4, 8, 9}, 1}, {[]int64{5, 6, 5, 9}, 2}, {[]int64{5, 6, 7, 6}, 3}, {[]int64{9, 8, 8, 8}, 1},
		{[]int64{10, 10}, 0}, {[]int64{5, 10, 9}, 1}, {[]int64{5, 6, 7, 10}, 3}, {[]int64{1, 4, 4}, 0}, {[]int64{9, 9, 4}, 2},
	} {
		found(t, head, log(c.rounds...), want[:c.n]...)
	}
	last := headOf(maxRound-4, 11, 2, 1, 8)
	found(t, last, log(1, maxRound-4, maxRound-4), want[:3]...)
	found(t, last, log(1, maxRound-4, maxRound-3), want[:2]...)
}

// TestP305NoFurtherThanTheRing: no record has a sector of the ring twice, and none is read twice.
func TestP305NoFurtherThanTheRing(t *testing.T) {
	for h := int64(1); h < 8; h++ {
		head := headOf(9, h, 2, 1, 6)
		five := filled(5, 5*piece)
		found(t, head, lay(4, h, 1, five)[:4])
		four := five[:4*piece]
		found(t, head, lay(4, h, 1, four), rec(h, 1, four))
		ls := joined(lay(4, h, 1, nil), lay(4, h+1, 2, four))
		found(t, head, ls[:4], rec(h, 1, nil))
		three := five[:3*piece]
		found(t, head, joined(lay(4, h, 1, nil), lay(4, h+1, 2, three)), rec(h, 1, nil), rec(h+1, 2, three))
		again := joined(lay(4, h+4, 7, nil), lay(4, h+1, 2, nil), lay(4, h+2, 3, nil), lay(4, h+3, 4, nil))
		found(t, head, again)
	}
}

func TestP305LongestPayload(t *testing.T) {
	long := filled(8, maxBytes)
	head := headOf(3, 50, 2, 1, 320)
	ls := lay(3, 50, 9, long)
	found(t, head, ls, rec(50, 9, long))
	found(t, head, joined(ls, lay(3, 366, 9, nil)), rec(50, 9, long), rec(366, 9, nil))
	over := lay(3, 50, 9, filled(8, maxBytes+1))
	found(t, head, over)
	found(t, head, lay(3, 50, 9, filled(8, 317*piece)))
	cut := lay(3, 50, 9, long)
	cut[315].part.turnedInSum = 8
	found(t, head, cut)
}

func TestP305LastLsn(t *testing.T) {
	for back := range int64(6) {
		h := maxLsn - back
		head := headOf(9, h, 2, 1, 8)
		var ls []laid
		var want []api.LogRec
		for i := range back + 2 {
			ls = append(ls, lay(4, h+i, 3, nil)...)
			if h+i <= maxLsn {
				want = append(want, rec(h+i, 3, nil))
			}
		}
		if back < 5 {
			found(t, head, ls, want...)
		}
		whole := filled(3, int(back+1)*piece)
		found(t, head, lay(4, h, 3, whole), rec(h, 3, whole))
		if back < 5 {
			whole = filled(3, int(back+2)*piece)
			found(t, head, lay(4, h, 3, whole))
		}
	}
}
