package slots_test

import (
	"testing"

	"trellis/api"
	"trellis/disk"
	"trellis/slots"
)

// example: a disk of 64 sectors with the store of the chapter's examples.
func example(t *testing.T) (*disk.Disk, *slots.Store) {
	t.Helper()
	d := littered(t, 64)
	wants(t, "Format", slots.Format(d, 8, small), api.OK)
	return d, opens(t, d)
}

func TestP502To505Example1(t *testing.T) {
	_, s := example(t)
	for kind, want := range []int{0, 5, 3, 2, 1, 0} {
		if got := slots.Per(kind); got != want {
			t.Errorf("Per(%d) = %d, want %d", kind, got, want)
		}
	}
	lists(t, s, 1)
	lacks(t, s, 1, 1, api.ErrSlotId)
	lacks(t, s, 1, 11, api.ErrSlotId)
	lacks(t, s, 5, 1, api.ErrSlotKind)
	roots(t, s, 3, 0)
	unrooted(t, s, 8, api.ErrArg)
	stands(t, s, api.PageStat{Pages: 6, Log: logOf(6, 3, 3, 3, 0)})
}

func TestP506To514Examples2To5(t *testing.T) {
	d, s := example(t)
	b := begins(t, s)
	unbegun(t, s, api.ErrOpen)
	gives(t, b, 1, 1, 2, 3, 4, 5, 6)
	puts(t, b, 1, 6, all(9, 20))
	lacks(t, s, 1, 6, api.ErrSlotId)
	wants(t, "Put of 19 bytes", b.Put(1, 6, all(9, 19)), api.ErrSlotSize)
	wants(t, "Put of 19 bytes", b.Put(1, 7, all(9, 19)), api.ErrSlotSize)
	wants(t, "Put of 20 bytes", b.Put(1, 7, all(9, 20)), api.ErrSlotId)

	puts(t, b, 1, 2, all(7, 20))
	frees(t, b, 1, 2)
	gives(t, b, 1, 2)
	holds(t, b, 1, 2, all(0, 20))
	commits(t, b, false, true, 3)
	lacks(t, b, 1, 1, api.ErrClosed)
	lists(t, s, 1, 1, 2, 3, 4, 5, 6)
	stands(t, s, api.PageStat{Pages: 6, Commits: 1, Dirty: 2, Oldest: 3, Log: logOf(6, 3, 6, 6, 0)})

	b = begins(t, s)
	gives(t, b, 2, 1, 2, 3)
	denies(t, b, 2, api.ErrSlotFull)
	wants(t, "Drop", b.Drop(), api.OK)

	b = begins(t, s)
	gives(t, b, 1, 7)
	puts(t, b, 1, 7, all(3, 20))
	frees(t, b, 1, 7)
	still := idle(t, d)
	commits(t, b, false, true, 0)
	still()
}

func TestP515Example6(t *testing.T) {
	for _, sync := range []bool{false, true} {
		d, s := example(t)
		b := begins(t, s)
		gives(t, b, 1, 1, 2, 3, 4, 5, 6)
		commits(t, b, false, true, 3)
		b = begins(t, s)
		wants(t, "SetRoot", b.SetRoot(0, -5), api.OK)
		commits(t, b, false, false, 6)
		want := int64(0)
		if sync {
			wants(t, "Sync", s.Sync(), api.OK)
			want = -5
		}
		d.Crash(nil)
		s = opens(t, d)
		roots(t, s, 0, want)
		lists(t, s, 1, 1, 2, 3, 4, 5, 6)
	}
}

func TestP503Example7(t *testing.T) {
	d := littered(t, 64)
	wants(t, "Format without a page of edges", slots.Format(d, 8, api.Sizes{Node: 1, Prop: 1, Tree: 1}), api.ErrArg)
	wants(t, "Format with too small a log", slots.Format(d, 3, small), api.ErrArg)
}

func TestP512Example8(t *testing.T) {
	_, s := example(t)
	wants(t, "Reserve", s.Reserve(), api.ErrLogFull)
	_, s = made(t, 9, small)
	wants(t, "Reserve", s.Reserve(), api.ErrLogFull)
	_, s = made(t, 10, small)
	wants(t, "Reserve", s.Reserve(), api.OK)
	stands(t, s, api.PageStat{Pages: 6, Log: logOf(8, 3, 3, 3, 8)})
}
