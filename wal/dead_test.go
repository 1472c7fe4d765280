package wal_test

import (
	"math"
	"testing"

	"trellis/api"
	"trellis/disk"
	"trellis/wal"
)

// isDead: what each call of a log without power answers: nothing is done any more.
func isDead(t *testing.T, d *disk.Disk, l *wal.Log, stat api.LogStat) {
	t.Helper()
	still := idle(t, d)
	for _, reserved := range []bool{false, true} {
		rejects(t, l, 0, nil, reserved, api.ErrRecord)
		rejects(t, l, 256, nil, reserved, api.ErrRecord)
		rejects(t, l, 1, filled(1, maxBytes+1), reserved, api.ErrRecord)
		rejects(t, l, 1, nil, reserved, api.ErrPower)
		rejects(t, l, 255, filled(1, 5000), reserved, api.ErrPower)
	}
	wants(t, "Flush", l.Flush(), api.ErrPower)
	for _, lsn := range []int64{stat.Head, stat.Next, stat.Durable, 0, -1, math.MaxInt64, math.MinInt64} {
		wants(t, "Cut", l.Cut(lsn), api.ErrPower)
	}
	for _, n := range []int{-1, math.MinInt} {
		wants(t, "Reserve", l.Reserve(n), api.ErrArg)
		wants(t, "Release", l.Release(n), api.ErrArg)
	}
	for _, n := range []int{0, 1, math.MaxInt} {
		wants(t, "Reserve", l.Reserve(n), api.ErrPower)
		wants(t, "Release", l.Release(n), api.ErrPower)
	}
	holds(t, l)
	if got := l.Stat(); got != stat {
		t.Errorf("Stat of a dead log = %+v, want %+v", got, stat)
	}
	still()
}

// used: a log with records that are flushed, one that is not, and one sector set aside.
func used(t *testing.T) (*disk.Disk, *wal.Log) {
	t.Helper()
	d, l := fresh(t, 14)
	appends(t, l, 1, filled(1, 150), false, 1)
	appends(t, l, 2, nil, false, 3)
	wants(t, "Flush", l.Flush(), api.OK)
	appends(t, l, 3, nil, false, 4)
	wants(t, "Reserve", l.Reserve(3), api.OK)
	stands(t, l, 1, 5, 4, 3, 5)
	return d, l
}

func TestP306Dies(t *testing.T) {
	for power := range 3 {
		for _, reserved := range []bool{false, true} {
			d, l := used(t)
			stat := l.Stat()
			d.Cut(power)
			data := filled(4, 300)
			rejects(t, l, 4, data, reserved, api.ErrPower)
			want := []api.SectorWrite{{At: 6, Data: partsOf(2, 4, 3, nil)[0].bytes()}}
			for i, p := range partsOf(2, 5, 4, data)[:power] {
				want = append(want, api.SectorWrite{At: 7 + i, Data: p.bytes()})
			}
			pends(t, d, want...)
			isDead(t, d, l, stat)
			d.Crash([]bool{true, true, true, true})
			holds(t, opens(t, d, 1, 14), rec(1, 1, filled(1, 150)), rec(3, 2, nil), rec(4, 3, nil))
		}
	}
}

func TestP307Dies(t *testing.T) {
	d, l := used(t)
	stat := l.Stat()
	d.Cut(0)
	wants(t, "Flush", l.Flush(), api.ErrPower)
	pends(t, d, api.SectorWrite{At: 6, Data: partsOf(2, 4, 3, nil)[0].bytes()})
	isDead(t, d, l, stat)
}

func TestP308Dies(t *testing.T) {
	for power := range 2 {
		for _, lsn := range []int64{3, 4} {
			d, l := used(t)
			stat := l.Stat()
			d.Cut(power)
			wants(t, "Cut", l.Cut(lsn), api.ErrPower)
			want := []api.SectorWrite{{At: 6, Data: partsOf(2, 4, 3, nil)[0].bytes()}}
			if power == 1 {
				want = append(want, api.SectorWrite{At: 1, Data: headOf(2, lsn, 4, 2, 14).bytes()})
			}
			pends(t, d, want...)
			isDead(t, d, l, stat)
		}
	}
}

// TestP301FaultsAheadOfPower: what is told of a log that is not dead yet, though the power is gone.
func TestP301FaultsAheadOfPower(t *testing.T) {
	d, l := used(t)
	off(t, d)
	stat := l.Stat()
	rejects(t, l, 1, filled(1, 3*piece+1), true, api.ErrReserve)
	rejects(t, l, 1, filled(1, 5*piece+1), false, api.ErrLogFull)
	wants(t, "Cut", l.Cut(2), api.ErrLsn)
	wants(t, "Cut", l.Cut(5), api.ErrLsn)
	wants(t, "Reserve", l.Reserve(6), api.ErrLogFull)
	wants(t, "Release", l.Release(4), api.ErrReserve)
	holds(t, l, rec(1, 1, filled(1, 150)), rec(3, 2, nil), rec(4, 3, nil))
	if got := l.Stat(); got != stat {
		t.Errorf("Stat = %+v, want %+v", got, stat)
	}
	wants(t, "Cut", l.Cut(4), api.ErrPower)
	isDead(t, d, l, stat)
}

// TestP301LetGo: a log whose disk has crashed, or on whose sectors others wrote, may answer what it likes, but each call ends.
func TestP301LetGo(t *testing.T) {
	for which := range 4 {
		d, l := used(t)
		switch which {
		case 0:
			d.Crash(nil)
		case 1:
			opens(t, d, 1, 14)
		case 2:
			wants(t, "Format", wal.Format(d, 1, 14), api.OK)
		default:
			for at := range 16 {
				wants(t, "Write", d.Write(at, filled(at, size)), api.OK)
			}
		}
		for i := range 60 {
			l.Append(1, filled(i, i*9), i%2 == 0)
			l.Flush()
			l.Cut(l.Stat().Next)
			l.Cut(int64(i))
			l.Reserve(i % 5)
			l.Release(i % 3)
			l.Records()
		}
	}
}
