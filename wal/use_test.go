package wal_test

import (
	"bytes"
	"math"
	"testing"

	"trellis/api"
	"trellis/disk"
	"trellis/wal"
)

// fresh: a disk and a log of n sectors on it that begins at sector 1, of round 2 and turn 3.
func fresh(t *testing.T, n int) (*disk.Disk, *wal.Log) {
	t.Helper()
	d := formatted(t, n+2, 1, n)
	return d, opens(t, d, 1, n)
}

// near: a log of eight sectors at 1 whose head says that, of the turn and round that the opening made one greater.
func near(t *testing.T, round, lsn, turn int64) (*disk.Disk, *wal.Log) {
	t.Helper()
	sectors := [][]byte{filled(1, size), zeros(), zeros()}
	sectors[1+turn%2] = headOf(round, lsn, turn, 1, 8).bytes()
	for range 7 {
		sectors = append(sectors, zeros())
	}
	d := crafted(t, sectors...)
	return d, opens(t, d, 1, 8)
}

func TestP306Bytes(t *testing.T) {
	for _, n := range []int{0, 1, 103, 104, 105, 208, 209, 624} {
		for before := range int64(8) {
			d, l := fresh(t, 8)
			for i := range before {
				appends(t, l, 1, nil, false, i+1)
				wants(t, "Flush", l.Flush(), api.OK)
				wants(t, "Cut", l.Cut(i+2), api.OK)
			}
			data := filled(n, n)
			appends(t, l, 200, data, false, before+1)
			var want []api.SectorWrite
			for i, p := range partsOf(2, before+1, 200, data) {
				want = append(want, api.SectorWrite{At: 3 + (int(before)+i)%6, Data: p.bytes()})
			}
			pends(t, d, want...)
			holds(t, l, rec(before+1, 200, data))
			stands(t, l, before+1, before+1+int64(len(want)), before+1, 0, 6-len(want))
		}
	}
}

func TestP306RoundOfTheLog(t *testing.T) {
	d := formatted(t, 8, 0, 8)
	for round := int64(2); round < 7; round++ {
		l := opens(t, d, 0, 8)
		appends(t, l, 3, []byte{9}, false, round-1)
		pends(t, d, api.SectorWrite{At: int(round), Data: partsOf(round, round-1, 3, []byte{9})[0].bytes()})
		wants(t, "Flush", l.Flush(), api.OK)
	}
}

func TestP306KindsAndLengths(t *testing.T) {
	d, l := fresh(t, 400)
	still := idle(t, d)
	for _, kind := range []int{0, -1, 256, 257, 512 + 1, math.MaxInt, math.MinInt, -255} {
		for _, reserved := range []bool{false, true} {
			rejects(t, l, kind, nil, reserved, api.ErrRecord)
			rejects(t, l, kind, filled(1, maxBytes+1), reserved, api.ErrRecord)
		}
	}
	for _, n := range []int{maxBytes + 1, maxBytes + 2, 2 * maxBytes, 1 << 20} {
		rejects(t, l, 1, filled(1, n), false, api.ErrRecord)
		rejects(t, l, 255, filled(1, n), true, api.ErrRecord)
	}
	still()
	stands(t, l, 1, 1, 1, 0, 398)
	long := filled(1, maxBytes)
	appends(t, l, 1, long, false, 1)
	appends(t, l, 255, nil, false, 317)
	stands(t, l, 1, 318, 1, 0, 81)
	wants(t, "Flush", l.Flush(), api.OK)
	holds(t, opens(t, d, 1, 400), rec(1, 1, long), rec(317, 255, nil))
}

func TestP306EveryKind(t *testing.T) {
	_, l := fresh(t, 258)
	for kind := 1; kind <= 255; kind++ {
		appends(t, l, kind, []byte{byte(kind)}, false, int64(kind))
	}
	for i, r := range l.Records() {
		if r.Kind != i+1 || !bytes.Equal(r.Data, []byte{byte(i + 1)}) {
			t.Errorf("record %d is %v", i, r)
		}
	}
}

func TestP306Room(t *testing.T) {
	d, l := fresh(t, 8)
	still := idle(t, d)
	rejects(t, l, 1, filled(1, 6*piece+1), false, api.ErrLogFull)
	rejects(t, l, 1, nil, true, api.ErrReserve)
	rejects(t, l, 1, filled(1, 6*piece+1), true, api.ErrReserve)
	wants(t, "Reserve", l.Reserve(2), api.OK)
	rejects(t, l, 1, filled(1, 4*piece+1), false, api.ErrLogFull)
	rejects(t, l, 1, filled(1, 2*piece+1), true, api.ErrReserve)
	still()
	stands(t, l, 1, 1, 1, 2, 4)
	appends(t, l, 1, filled(1, 4*piece), false, 1)
	stands(t, l, 1, 5, 1, 2, 0)
	rejects(t, l, 1, nil, false, api.ErrLogFull)
	appends(t, l, 2, nil, true, 5)
	stands(t, l, 1, 6, 1, 1, 0)
	rejects(t, l, 1, filled(1, piece+1), true, api.ErrReserve)
	rejects(t, l, 1, filled(1, piece+1), false, api.ErrLogFull)
	appends(t, l, 3, filled(3, piece), true, 6)
	stands(t, l, 1, 7, 1, 0, 0)
	rejects(t, l, 1, nil, false, api.ErrLogFull)
	rejects(t, l, 1, nil, true, api.ErrReserve)
	holds(t, l, rec(1, 1, filled(1, 4*piece)), rec(5, 2, nil), rec(6, 3, filled(3, piece)))
	if got := len(d.Pending()); got != 6 {
		t.Errorf("%d writes are pending, want 6", got)
	}
}

func TestP306ReservedWhileThereIsFreeRoom(t *testing.T) {
	_, l := fresh(t, 8)
	wants(t, "Reserve", l.Reserve(3), api.OK)
	appends(t, l, 1, filled(1, 150), true, 1)
	stands(t, l, 1, 3, 1, 1, 3)
	appends(t, l, 1, filled(1, 150), false, 3)
	stands(t, l, 1, 5, 1, 1, 1)
}

func TestP306LastLsn(t *testing.T) {
	d, l := near(t, 4, maxLsn-2, 6)
	stands(t, l, maxLsn-2, maxLsn-2, maxLsn-2, 0, 6)
	still := idle(t, d)
	rejects(t, l, 1, filled(1, 3*piece+1), false, api.ErrLogFull)
	rejects(t, l, 1, filled(1, 3*piece+1), true, api.ErrReserve)
	wants(t, "Reserve", l.Reserve(4), api.OK)
	rejects(t, l, 1, filled(1, 3*piece+1), true, api.ErrLogFull)
	rejects(t, l, 0, nil, true, api.ErrRecord)
	still()
	stands(t, l, maxLsn-2, maxLsn-2, maxLsn-2, 4, 2)
	appends(t, l, 1, nil, true, maxLsn-2)
	appends(t, l, 2, filled(2, piece+1), false, maxLsn-1)
	stands(t, l, maxLsn-2, maxLsn+1, maxLsn-2, 3, 0)
	wants(t, "Release", l.Release(3), api.OK)
	rejects(t, l, 1, nil, false, api.ErrLogFull)
	wants(t, "Reserve", l.Reserve(1), api.OK)
	rejects(t, l, 1, nil, true, api.ErrLogFull)
	wants(t, "Flush", l.Flush(), api.OK)
	l = opens(t, d, 1, 8)
	holds(t, l, rec(maxLsn-2, 1, nil), rec(maxLsn-1, 2, filled(2, piece+1)))
	stands(t, l, maxLsn-2, maxLsn+1, maxLsn+1, 0, 3)
	wants(t, "Cut behind the last lsn", l.Cut(maxLsn+1), api.ErrLogFull)
	wants(t, "Cut", l.Cut(maxLsn-1), api.OK)
	stands(t, l, maxLsn-1, maxLsn+1, maxLsn+1, 0, 4)
	wants(t, "Cut behind the last lsn", l.Cut(maxLsn+1), api.ErrLogFull)
	wants(t, "Cut further", l.Cut(maxLsn+2), api.ErrLsn)
	rejects(t, l, 1, nil, false, api.ErrLogFull)
}

func TestP308AtTheLastLsn(t *testing.T) {
	d, l := near(t, 4, maxLsn-1, 6)
	appends(t, l, 1, nil, false, maxLsn-1)
	appends(t, l, 2, nil, false, maxLsn)
	wants(t, "Flush", l.Flush(), api.OK)
	wants(t, "Cut", l.Cut(maxLsn), api.OK)
	reads(t, d, 1, headOf(5, maxLsn, 8, 5, 8).bytes())
	holds(t, opens(t, d, 1, 8), rec(maxLsn, 2, nil))
}

func TestP307Flush(t *testing.T) {
	d, l := fresh(t, 8)
	still := idle(t, d)
	wants(t, "Flush of nothing", l.Flush(), api.OK)
	still()
	appends(t, l, 1, nil, false, 1)
	appends(t, l, 2, nil, false, 2)
	stands(t, l, 1, 3, 1, 0, 4)
	flushes := d.Stat().Flushes
	wants(t, "Flush", l.Flush(), api.OK)
	stands(t, l, 1, 3, 3, 0, 4)
	if s := d.Stat(); s.Flushes != flushes+1 || s.Pending != 0 {
		t.Errorf("behind Flush the disk has %+v", s)
	}
	still = idle(t, d)
	wants(t, "Flush again", l.Flush(), api.OK)
	still()
	holds(t, l, rec(1, 1, nil), rec(2, 2, nil))
	off(t, d)
	wants(t, "Flush of nothing, without power", l.Flush(), api.OK)
	wants(t, "Cut to the head, without power", l.Cut(1), api.OK)
	wants(t, "Reserve, without power", l.Reserve(1), api.OK)
	wants(t, "Release, without power", l.Release(1), api.OK)
	holds(t, l, rec(1, 1, nil), rec(2, 2, nil))
	stands(t, l, 1, 3, 3, 0, 4)
}

// TestP308WhichLsns: each lsn round about those of the log, with a part of it flushed.
func TestP308WhichLsns(t *testing.T) {
	begin := func() (*disk.Disk, *wal.Log) {
		d, l := fresh(t, 12)
		appends(t, l, 1, nil, false, 1)
		appends(t, l, 2, filled(2, 250), false, 2)
		wants(t, "Flush", l.Flush(), api.OK)
		wants(t, "Cut", l.Cut(2), api.OK)
		appends(t, l, 3, filled(3, 150), false, 5)
		wants(t, "Flush", l.Flush(), api.OK)
		appends(t, l, 4, nil, false, 7)
		appends(t, l, 5, nil, false, 8)
		return d, l
	}
	lsns := []int64{math.MinInt64, math.MaxInt64, maxLsn, maxLsn + 1, -1 << 40}
	for lsn := int64(-3); lsn < 13; lsn++ {
		lsns = append(lsns, lsn)
	}
	live := []api.LogRec{rec(2, 2, filled(2, 250)), rec(5, 3, filled(3, 150)), rec(7, 4, nil), rec(8, 5, nil)}
	for _, lsn := range lsns {
		d, l := begin()
		still := idle(t, d)
		code := l.Cut(lsn)
		switch lsn {
		case 2:
			wants(t, "Cut to the head", code, api.OK)
			still()
			stands(t, l, 2, 9, 7, 0, 3)
			holds(t, l, live...)
		case 5:
			wants(t, "Cut", code, api.OK)
			pends(t, d)
			reads(t, d, 2, headOf(2, 5, 5, 2, 12).bytes())
			stands(t, l, 5, 9, 9, 0, 6)
			holds(t, l, live[1:]...)
			holds(t, opens(t, d, 1, 12), live[1:]...)
		case 7:
			wants(t, "Cut", code, api.OK)
			stands(t, l, 7, 9, 9, 0, 8)
			holds(t, l, live[2:]...)
			holds(t, opens(t, d, 1, 12), live[2:]...)
		default:
			wants(t, "Cut", code, api.ErrLsn)
			still()
			stands(t, l, 2, 9, 7, 0, 3)
			holds(t, l, live...)
		}
	}
	d, l := begin()
	wants(t, "Cut to a record that was not flushed", l.Cut(8), api.ErrLsn)
	wants(t, "Cut to Next, not flushed", l.Cut(9), api.ErrLsn)
	wants(t, "Flush", l.Flush(), api.OK)
	wants(t, "Cut", l.Cut(9), api.OK)
	reads(t, d, 2, headOf(2, 9, 5, 2, 12).bytes())
	stands(t, l, 9, 9, 9, 0, 10)
	holds(t, l)
	still := idle(t, d)
	wants(t, "Cut to the head", l.Cut(9), api.OK)
	wants(t, "Cut below the head", l.Cut(8), api.ErrLsn)
	still()
}

// manyRounds: a disk with a log of eight sectors at 1, all flushed: records of one sector with the lsns 1 to 4 and the rounds 2 to 5; the log that is open is of round 7, turn 8.
func manyRounds(t *testing.T) (*disk.Disk, *wal.Log) {
	t.Helper()
	d := formatted(t, 10, 1, 8)
	for i := range int64(4) {
		l := opens(t, d, 1, 8)
		appends(t, l, int(i)+1, nil, false, i+1)
		wants(t, "Flush", l.Flush(), api.OK)
	}
	opens(t, d, 1, 8)
	return d, opens(t, d, 1, 8)
}

func TestP308Floor(t *testing.T) {
	for i := range int64(3) {
		d, l := manyRounds(t)
		wants(t, "Cut", l.Cut(2+i), api.OK)
		reads(t, d, 2, headOf(7, 2+i, 9, 3+i, 8).bytes())
		opens(t, d, 1, 8)
		reads(t, d, 1, headOf(8, 2+i, 10, 3+i, 8).bytes())
	}
	d, l := manyRounds(t)
	wants(t, "Cut", l.Cut(5), api.OK)
	reads(t, d, 2, headOf(7, 5, 9, 7, 8).bytes())
	appends(t, l, 9, nil, false, 5)
	wants(t, "Flush", l.Flush(), api.OK)
	appends(t, l, 9, nil, false, 6)
	wants(t, "Flush", l.Flush(), api.OK)
	wants(t, "Cut", l.Cut(6), api.OK)
	reads(t, d, 1, headOf(7, 6, 10, 7, 8).bytes())
}

func TestP308Acts(t *testing.T) {
	begin := func() (*disk.Disk, func() api.Errno) {
		d, l := manyRounds(t)
		return d, func() api.Errno { return l.Cut(3) }
	}
	does(t, begin, []operation{{2, headOf(7, 3, 9, 4, 8).bytes()}, {}})
}

func TestP308LastTurn(t *testing.T) {
	d, l := near(t, 4, 1, maxTurn-2)
	appends(t, l, 1, nil, false, 1)
	appends(t, l, 2, nil, false, 2)
	wants(t, "Flush", l.Flush(), api.OK)
	wants(t, "Cut", l.Cut(2), api.OK)
	reads(t, d, 1, headOf(5, 2, maxTurn, 5, 8).bytes())
	still := idle(t, d)
	wants(t, "Cut beyond the last turn", l.Cut(3), api.ErrLogFull)
	wants(t, "Cut to no record", l.Cut(4), api.ErrLsn)
	wants(t, "Cut to the head", l.Cut(2), api.OK)
	still()
	stands(t, l, 2, 3, 3, 0, 5)
	appends(t, l, 3, nil, false, 3)
	holds(t, l, rec(2, 2, nil), rec(3, 3, nil))
	refuses(t, d, 1, 8, api.ErrLogFull)
}

func TestP309ReserveAndRelease(t *testing.T) {
	d, l := fresh(t, 8)
	appends(t, l, 1, nil, false, 1)
	still := idle(t, d)
	for _, n := range []int{-1, -2, math.MinInt} {
		wants(t, "Reserve", l.Reserve(n), api.ErrArg)
		wants(t, "Release", l.Release(n), api.ErrArg)
	}
	for _, n := range []int{6, 7, math.MaxInt, math.MaxInt - 1} {
		wants(t, "Reserve", l.Reserve(n), api.ErrLogFull)
		wants(t, "Release", l.Release(n), api.ErrReserve)
	}
	stands(t, l, 1, 2, 1, 0, 5)
	wants(t, "Reserve", l.Reserve(0), api.OK)
	wants(t, "Release", l.Release(0), api.OK)
	wants(t, "Release", l.Release(1), api.ErrReserve)
	wants(t, "Reserve", l.Reserve(5), api.OK)
	stands(t, l, 1, 2, 1, 5, 0)
	wants(t, "Reserve", l.Reserve(1), api.ErrLogFull)
	wants(t, "Reserve", l.Reserve(0), api.OK)
	wants(t, "Release", l.Release(6), api.ErrReserve)
	wants(t, "Release", l.Release(2), api.OK)
	stands(t, l, 1, 2, 1, 3, 2)
	wants(t, "Reserve", l.Reserve(1), api.OK)
	stands(t, l, 1, 2, 1, 4, 1)
	wants(t, "Release", l.Release(4), api.OK)
	stands(t, l, 1, 2, 1, 0, 5)
	wants(t, "Reserve", l.Reserve(3), api.OK)
	still()
	stands(t, opens(t, d, 1, 8), 1, 2, 2, 0, 5)
}

func TestP309ReservedStaysBesideCut(t *testing.T) {
	_, l := fresh(t, 8)
	appends(t, l, 1, filled(1, 300), false, 1)
	wants(t, "Flush", l.Flush(), api.OK)
	wants(t, "Reserve", l.Reserve(2), api.OK)
	wants(t, "Cut", l.Cut(4), api.OK)
	stands(t, l, 4, 4, 4, 2, 4)
}

func TestP310FlushedOrNot(t *testing.T) {
	d, l := fresh(t, 12)
	var want []api.LogRec
	for i := range 8 {
		want = append(want, rec(int64(i)+1, i+1, filled(i, i)))
		appends(t, l, i+1, filled(i, i), false, int64(i)+1)
		holds(t, l, want...)
		if i%3 == 0 {
			wants(t, "Flush", l.Flush(), api.OK)
			holds(t, l, want...)
		}
	}
	off(t, d)
	holds(t, l, want...)
	stands(t, l, 1, 9, 8, 0, 2)
}

func TestP315RoomThatIsSetAside(t *testing.T) {
	for aside := range 7 {
		_, l := fresh(t, 8)
		wants(t, "Reserve", l.Reserve(aside), api.OK)
		next := int64(1)
		for aside+int(next) <= 6 {
			appends(t, l, 1, nil, false, next)
			next++
		}
		rejects(t, l, 1, nil, false, api.ErrLogFull)
		wants(t, "Reserve", l.Reserve(1), api.ErrLogFull)
		for left := aside; left > 0; left-- {
			stands(t, l, 1, next, 1, left, 0)
			rejects(t, l, 1, filled(1, left*piece+1), true, api.ErrReserve)
			appends(t, l, 1, filled(1, left%2*piece), true, next)
			next++
		}
		rejects(t, l, 1, nil, true, api.ErrReserve)
	}
}

func TestP301PayloadsAreOwn(t *testing.T) {
	d, l := fresh(t, 12)
	whole := filled(1, 300)
	data := whole[:200]
	appends(t, l, 1, data, false, 1)
	appends(t, l, 2, data[:0], false, 3)
	if !bytes.Equal(whole, filled(1, 300)) {
		t.Errorf("Append changes what is handed in, or its spare room")
	}
	clear(whole)
	want := []api.LogRec{rec(1, 1, filled(1, 200)), rec(3, 2, nil)}
	holds(t, l, want...)
	wants(t, "Flush", l.Flush(), api.OK)
	for range 2 {
		got, other := l.Records(), l.Records()
		for i := range got {
			spoil(got[i].Data)
			spoil(append(got[i].Data, 1, 2, 3))
			got[i].Lsn, got[i].Kind = 9, 9
		}
		_ = append(got[:1], api.LogRec{Lsn: 5})
		if !same(other[0], want[0]) || !same(other[1], want[1]) {
			t.Errorf("what is written into one answer is seen in another")
		}
		holds(t, l, want...)
		l = opens(t, d, 1, 12)
	}
}

// spoil: writes into all of a list, its spare room too.
func spoil(b []byte) {
	b = b[:cap(b)]
	for i := range b {
		b[i] ^= 0x5a
	}
}

// TestP301OldAnswersStay: what a later call does is not seen in an earlier answer.
func TestP301OldAnswersStay(t *testing.T) {
	_, l := fresh(t, 8)
	for i := range int64(4) {
		appends(t, l, 1, []byte{byte(i)}, false, i+1)
	}
	wants(t, "Flush", l.Flush(), api.OK)
	before := l.Records()
	wants(t, "Cut", l.Cut(3), api.OK)
	appends(t, l, 7, []byte{7}, false, 5)
	for i, r := range before {
		if !same(r, rec(int64(i)+1, 1, []byte{byte(i)})) {
			t.Errorf("an earlier answer has changed: %v", r)
		}
	}
	holds(t, l, rec(3, 1, []byte{2}), rec(4, 1, []byte{3}), rec(5, 7, []byte{7}))
}
