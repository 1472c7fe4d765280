package pages_test

import (
	"math"
	"testing"

	"trellis/api"
	"trellis/disk"
	"trellis/pages"
	"trellis/wal"
)

// isDead: what each call of a store of 12 pages without power answers: nothing is done any more.
func isDead(t *testing.T, d *disk.Disk, s *pages.Store, stat api.PageStat) {
	t.Helper()
	still := idle(t, d)
	for page := range 12 {
		unread(t, s, page, api.ErrPower)
	}
	for _, n := range append([]int{12, 99}, numbers...) {
		unread(t, s, n, api.ErrPage)
	}
	rejects(t, s, run(0, 1, 1), -1, api.ErrArg)
	rejects(t, s, run(0, 1, 1), 257, api.ErrArg)
	rejects(t, s, nil, 0, api.ErrBatch)
	rejects(t, s, batch(api.PageImage{Page: 99}), 0, api.ErrBatch)
	rejects(t, s, run(11, 2, 1), 0, api.ErrPage)
	rejects(t, s, batch(image(2, 1), image(2, 1)), 1, api.ErrPage)
	rejects(t, s, run(0, 3, 1), 2, api.ErrArg)
	for _, held := range []int{0, 2, 12, 256} { // whether so much is set aside or not, and free or not
		rejects(t, s, run(0, 2, 1), held, api.ErrPower)
	}
	rejects(t, s, run(0, 12, 1), 0, api.ErrPower)
	wants(t, "Sync", s.Sync(), api.ErrPower)
	for _, n := range []int{-1, math.MinInt} {
		unsettled(t, s, n, api.ErrArg)
	}
	for _, n := range []int{0, 1, 12, math.MaxInt} {
		unsettled(t, s, n, api.ErrPower)
	}
	for _, n := range []int{0, -1, 257, math.MinInt, math.MaxInt} {
		wants(t, "Reserve", s.Reserve(n), api.ErrArg)
		wants(t, "Release", s.Release(n), api.ErrArg)
	}
	for _, n := range []int{1, 2, 256} {
		wants(t, "Reserve", s.Reserve(n), api.ErrPower)
		wants(t, "Release", s.Release(n), api.ErrPower)
	}
	stands(t, s, stat)
	still()
}

// busy: what ready made, with the room of two pages set aside.
func busy(t *testing.T, sync bool) (*disk.Disk, *pages.Store) {
	t.Helper()
	d, s := ready(t, sync)
	wants(t, "Reserve", s.Reserve(2), api.OK)
	return d, s
}

// dies: a store dies in the call at each act of it, as many as there are; from then on it tells what it told ahead of the call.
func dies(t *testing.T, acts int, sync bool, call func(*pages.Store)) {
	t.Helper()
	for power := range acts {
		d, s := busy(t, sync)
		stat := s.Stat()
		d.Cut(power)
		call(s)
		if !d.Stat().Down {
			t.Fatalf("the call does no more than %d acts", power)
		}
		isDead(t, d, s, stat)
		d.Crash(make([]bool, 99))
		for page, b := range []byte{7, 0, 4, 0, 2, 0, 6, 0, 0, 5, 0, 0} {
			if sync {
				holds(t, opens(t, d), page, full(b))
			}
		}
	}
	d, s := busy(t, sync)
	d.Cut(acts)
	call(s)
	if d.Stat().Down {
		t.Fatalf("the call does more than %d acts", acts)
	}
}

func TestP405Dies(t *testing.T) {
	for _, synced := range []bool{true, false} {
		for _, held := range []int{0, 2} {
			for _, sync := range []bool{true, false} {
				acts := 2
				if sync {
					acts = 3
				}
				dies(t, acts, synced, func(s *pages.Store) { s.Commit(run(9, 1, 77), held, sync) })
			}
		}
	}
	d, s := busy(t, true)
	d.Cut(2)
	loses(t, s, run(9, 1, 77), 2, true)
}

func TestP406Dies(t *testing.T) {
	dies(t, 1, false, func(s *pages.Store) { s.Sync() })
	d, s := busy(t, false)
	d.Cut(0)
	wants(t, "Sync", s.Sync(), api.ErrPower)
}

// TestP407Dies: with the log flushed and not; also in the cut, behind which nothing can be lost any more.
func TestP407Dies(t *testing.T) {
	dies(t, 2, true, func(s *pages.Store) { s.Checkpoint(1) })
	dies(t, 5, true, func(s *pages.Store) { s.Checkpoint(2) })
	dies(t, 8, true, func(s *pages.Store) { s.Checkpoint(12) })
	dies(t, 3, false, func(s *pages.Store) { s.Checkpoint(1) })
	dies(t, 9, false, func(s *pages.Store) { s.Checkpoint(12) })
	for power := range 8 {
		d, s := busy(t, true)
		d.Cut(power)
		unsettled(t, s, 12, api.ErrPower)
	}
}

// TestP404Dies: a read that the disk refuses is the end, one of a dirty page isn't refused.
func TestP404Dies(t *testing.T) {
	d, s := busy(t, true)
	off(t, d)
	stat := s.Stat()
	holds(t, s, 9, full(5))
	unread(t, s, 12, api.ErrPage)
	unread(t, s, 1, api.ErrPower)
	isDead(t, d, s, stat)
}

// TestP401FaultsAheadOfPower: what is told of a store that is not dead yet, though the power is gone.
func TestP401FaultsAheadOfPower(t *testing.T) {
	d, s := busy(t, false)
	d.Cut(0)
	still, stat := idle(t, d), s.Stat()
	rejects(t, s, run(0, 3, 1), 3, api.ErrReserve)
	rejects(t, s, run(0, 12, 1), 0, api.ErrLogFull)
	rejects(t, s, nil, 0, api.ErrBatch)
	settles(t, s, 0, 0)
	wants(t, "Reserve", s.Reserve(3), api.ErrLogFull)
	wants(t, "Release", s.Release(3), api.ErrReserve)
	wants(t, "Release", s.Release(2), api.OK)
	wants(t, "Reserve", s.Reserve(2), api.OK)
	stands(t, s, stat)
	still()
	unsettled(t, s, 1, api.ErrPower)
	isDead(t, d, s, stat)
}

// TestP401LetGo: a store whose disk has crashed, or on whose sectors others wrote, may answer what it likes, but each call ends.
func TestP401LetGo(t *testing.T) {
	for which := range 6 {
		d, s := busy(t, false)
		switch which {
		case 0:
			d.Crash(nil)
		case 1:
			opens(t, d)
		case 2:
			wants(t, "Format", pages.Format(d, 4, 3), api.OK)
		case 3:
			wal.Format(d, 1, 18)
			wal.Open(d, 1, 18)
		case 4:
			for at := range 64 {
				wants(t, "Write", d.Write(at, filled(at, size)), api.OK)
			}
		default:
			off(t, d)
			s.Sync()
			d.Crash([]bool{true, false, true, true})
		}
		for i := range 60 {
			s.Commit(run(i%9, 1+i%4, byte(i)), i%3*4, i%2 == 0)
			s.Read(i % 13)
			s.Sync()
			s.Reserve(i % 5)
			s.Release(i % 3)
			s.Checkpoint(i % 4)
			s.Stat()
		}
		s.Checkpoint(12)
	}
}
