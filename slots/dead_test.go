package slots_test

import (
	"fmt"
	"testing"

	"trellis/api"
	"trellis/disk"
	"trellis/slots"
)

// isDead: what each call of a dead store of the small sizes answers, an open batch or not: nothing is done any more.
func isDead(t *testing.T, d *disk.Disk, s *slots.Store, stat api.PageStat) {
	t.Helper()
	still := idle(t, d)
	withoutPower(t, s)
	for _, most := range []int{-1, -1 << 63} {
		unsettled(t, s, most, api.ErrArg)
	}
	for _, most := range []int{0, 1, 99} {
		unsettled(t, s, most, api.ErrPower)
	}
	wants(t, "Sync", s.Sync(), api.ErrPower)
	wants(t, "Reserve", s.Reserve(), api.ErrPower)
	wants(t, "Release", s.Release(), api.ErrPower)
	stands(t, s, stat)
	still()
}

// withoutPower: what a reader of a dead store answers.
func withoutPower(t *testing.T, r reader) {
	t.Helper()
	if z := r.Sizes(); z != small {
		t.Errorf("Sizes() = %v, want %v", z, small)
	}
	faults(t, r)
	for kind := 1; kind <= 4; kind++ {
		for _, id := range noIds(small, kind) {
			lacks(t, r, kind, id, api.ErrSlotId)
		}
		for id := int64(1); id <= capacityOf(small, kind); id++ {
			lacks(t, r, kind, id, api.ErrPower)
		}
		unlisted(t, r, kind, api.ErrPower)
	}
	for i := range 8 {
		unrooted(t, r, i, api.ErrPower)
	}
}

// batchWithoutPower: what an open batch of a dead store answers, whether it has touched a page or not, and whether a record is there or not.
func batchWithoutPower(t *testing.T, d *disk.Disk, b *slots.Batch) {
	t.Helper()
	still := idle(t, d)
	withoutPower(t, b)
	for kind := 1; kind <= 4; kind++ {
		denies(t, b, kind, api.ErrPower)
		for _, id := range noIds(small, kind) {
			wants(t, "Free", b.Free(kind, id), api.ErrSlotId)
			wants(t, "Put", b.Put(kind, id, nil), api.ErrSlotId)
		}
		for id := int64(1); id <= capacityOf(small, kind); id++ {
			wants(t, "Free", b.Free(kind, id), api.ErrPower)
			wants(t, "Put", b.Put(kind, id, nil), api.ErrSlotSize)
			wants(t, "Put", b.Put(kind, id, all(1, lengthOf[kind])), api.ErrPower)
		}
	}
	for _, kind := range noKinds {
		denies(t, b, kind, api.ErrSlotKind)
		wants(t, "Free", b.Free(kind, 1), api.ErrSlotKind)
		wants(t, "Put", b.Put(kind, 1, nil), api.ErrSlotKind)
	}
	for i := range 8 {
		wants(t, "SetRoot", b.SetRoot(i, 1), api.ErrPower)
	}
	for _, i := range noRoots {
		wants(t, "SetRoot", b.SetRoot(i, 1), api.ErrArg)
	}
	still()
}

// busy: a store with a commit that was not flushed, and something set aside.
func busy(t *testing.T) (*disk.Disk, *slots.Store) {
	t.Helper()
	d, s := made(t, 30, small)
	b := begins(t, s)
	gives(t, b, 1, 1, 2)
	gives(t, b, 2, 1)
	commits(t, b, false, false, 3)
	wants(t, "Reserve", s.Reserve(), api.OK)
	return d, s
}

// TestP510Dies: the power goes at each act of the commit.
func TestP510Dies(t *testing.T) {
	for _, held := range []bool{false, true} {
		for _, sync := range []bool{false, true} {
			acts := 3
			if sync {
				acts = 4
			}
			for power := range acts {
				d, s := busy(t)
				b := begins(t, s)
				gives(t, b, 4, 1)
				frees(t, b, 1, 1)
				stat := s.Stat()
				d.Cut(power)
				rejects(t, b, held, sync, api.ErrPower)
				if !d.Stat().Down {
					t.Fatalf("the commit does no more than %d acts", power)
				}
				unbegun(t, s, api.ErrPower) // at once: no other call has found out
				ended(t, b)
				isDead(t, d, s, stat)
			}
			d, s := busy(t)
			b := begins(t, s)
			gives(t, b, 4, 1)
			frees(t, b, 1, 1)
			d.Cut(acts)
			commits(t, b, held, sync, 6)
		}
	}
}

// TestP512Dies: in a Sync or a Checkpoint, while a batch is open: it is open still, and can be ended.
func TestP512Dies(t *testing.T) {
	for _, call := range []struct {
		acts int
		do   func(*slots.Store) api.Errno
	}{
		{1, func(s *slots.Store) api.Errno { return s.Sync() }},
		{6, func(s *slots.Store) api.Errno { _, code := s.Checkpoint(9); return code }},
	} {
		for power := range call.acts {
			for end := range 3 {
				d, s := busy(t)
				b := begins(t, s)
				gives(t, b, 1, 3)
				gives(t, b, 3, 1)
				wants(t, "SetRoot", b.SetRoot(0, 1), api.OK)
				stat := s.Stat()
				d.Cut(power)
				wants(t, "the call", call.do(s), api.ErrPower)
				batchWithoutPower(t, d, b) // at once: no other call of the store has found out
				isDead(t, d, s, stat)
				unbegun(t, s, api.ErrOpen)
				switch end {
				case 0:
					wants(t, "Drop", b.Drop(), api.OK)
				case 1:
					rejects(t, b, true, true, api.ErrPower)
				default:
					rejects(t, b, false, false, api.ErrPower)
				}
				ended(t, b)
				unbegun(t, s, api.ErrPower)
				isDead(t, d, s, stat)
			}
		}
		d, s := busy(t)
		d.Cut(call.acts)
		wants(t, "the call", call.do(s), api.OK)
	}
}

// TestP510DeadAndUntouched: the power's loss is told ahead of a commit of nothing.
func TestP510DeadAndUntouched(t *testing.T) {
	for _, held := range []bool{false, true} {
		d, s := busy(t)
		b := begins(t, s)
		d.Cut(0)
		wants(t, "Sync", s.Sync(), api.ErrPower)
		rejects(t, b, held, true, api.ErrPower)
		ended(t, b)
	}
}

// TestP501NoPanic: a store whose disk was taken away from it: its answers are free, but each call ends.
func TestP501NoPanic(t *testing.T) {
	for harm := range 4 {
		d, s := busy(t)
		settles(t, s, 9, 2)
		b := begins(t, s)
		gives(t, b, 1, 3)
		gives(t, b, 4, 1)
		switch harm {
		case 0:
			off(t, d)
		case 1:
			wants(t, "Format", slots.Format(d, 4, api.Sizes{Node: 1, Edge: 1, Prop: 1, Tree: 1}), api.OK)
		case 2:
			d.Write(32, make([]byte, size))
			d.Write(36, make([]byte, size))
		default:
			d.Cut(1)
			d.Flush()
			d.Crash(nil)
		}
		for _, r := range []reader{s, b} {
			for kind := range 6 {
				r.Used(kind)
				for id := range int64(12) {
					r.Get(kind, id)
				}
			}
			r.Root(0)
		}
		for kind := range 6 {
			b.Alloc(kind)
			b.Free(kind, 1)
			b.Put(kind, 1, nil)
		}
		b.SetRoot(0, 1)
		if _, code := b.Commit(true, true); harm == 0 && code != api.ErrPower || harm == 2 && code != api.ErrPage {
			t.Errorf("harm %d: Commit = %d", harm, code)
		}
		ended(t, b)
		s.Begin()
		s.Sync()
		s.Checkpoint(9)
		s.Reserve()
		s.Release()
		if s.Stat().Pages != 6 {
			t.Errorf("Stat() = %s", fmt.Sprint(s.Stat()))
		}
	}
}
