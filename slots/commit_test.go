package slots_test

import (
	"bytes"
	"fmt"
	"slices"
	"testing"

	"trellis/api"
	"trellis/disk"
	"trellis/slots"
)

// recorded: the pages of the commit whose record lies at lsn, in its order. (The log was never written round its end.)
func recorded(d *disk.Disk, lsn int64) []int {
	b := d.Image()
	for _, w := range d.Pending() {
		copy(b[w.At*size:], w.Data)
	}
	var data []byte
	for at := 3 + int(lsn) - 1; at < len(b)/size; at++ {
		data = append(data, b[at*size+24:(at+1)*size]...)
	}
	var out []int
	for i := range int(data[0])<<8 + int(data[1]) {
		at := data[2+122*i:]
		out = append(out, int(at[0])<<8+int(at[1]))
	}
	return out
}

func commitsPages(t *testing.T, d *disk.Disk, b *slots.Batch, lsn int64, want ...int) {
	t.Helper()
	commits(t, b, false, false, lsn)
	if got := recorded(d, lsn); !slices.Equal(got, want) {
		t.Errorf("the commit has the pages %v, want %v", got, want)
	}
}

// TestP510Pages: those that are not as they were, rising, and no others.
func TestP510Pages(t *testing.T) {
	d, s := made(t, 60, wide)
	b := begins(t, s)
	gives(t, b, 4, 1, 2, 3, 4, 5)
	gives(t, b, 3, 1, 2, 3)
	frees(t, b, 4, 2, 4)
	wants(t, "SetRoot", b.SetRoot(7, 1), api.OK)
	gives(t, b, 2, 1)
	gives(t, b, 1, 1, 2, 3, 4, 5, 6)
	commitsPages(t, d, b, 3, 0, 1, 2, 4, 6, 7, 10, 12, 14)

	lsn := 3 + int64(roomOf(9))
	b = begins(t, s)
	holds(t, b, 1, 1, all(0, 20))
	puts(t, b, 1, 1, all(0, 20)) // touched, and as it was
	frees(t, b, 1, 6)
	gives(t, b, 1, 6)
	puts(t, b, 2, 1, all(5, 36))
	wants(t, "SetRoot", b.SetRoot(7, 4), api.OK)
	wants(t, "SetRoot", b.SetRoot(7, 1), api.OK)
	gives(t, b, 4, 2)
	commitsPages(t, d, b, lsn, 4, 11)

	lsn += int64(roomOf(2))
	b = begins(t, s)
	frees(t, b, 3, 1, 3)
	commitsPages(t, d, b, lsn, 6, 7)
	want := [][]byte{
		0: rootOf(wide, [8]int64{7: 1}),
		1: pageOf(1, map[int][]byte{0: nil, 1: nil, 2: nil, 3: nil, 4: nil}), 2: pageOf(1, map[int][]byte{0: nil}), 3: all(0, whole),
		4: pageOf(2, map[int][]byte{0: all(5, 36)}), 5: all(0, whole),
		6: pageOf(3, map[int][]byte{1: nil}), 7: all(0, whole), 8: all(0, whole), 9: all(0, whole),
		10: pageOf(4, map[int][]byte{0: nil}), 11: pageOf(4, map[int][]byte{0: nil}), 12: pageOf(4, map[int][]byte{0: nil}), 13: all(0, whole), 14: pageOf(4, map[int][]byte{0: nil}),
	}
	wants(t, "Sync", s.Sync(), api.OK)
	if got := contents(t, d); !slices.EqualFunc(got, want, bytes.Equal) {
		t.Errorf("the pages are % x, want % x", got, want)
	}
}

// TestP510Form: the bytes that a commit leaves: those of the used slots, and zeros; on the root page what nobody looks at stays.
func TestP510Form(t *testing.T) {
	root := append(rootOf(wide, [8]int64{})[:80], filled(6, 40)...)
	d := rewritten(t, formatted(t, 60, wide), api.PageImage{Page: 0, Data: root})
	b := begins(t, opens(t, d))
	for kind := 1; kind <= 4; kind++ {
		for id := range int64(2 * perOf[kind]) {
			gives(t, b, kind, id+1)
			puts(t, b, kind, id+1, recordOf(kind, id+1))
		}
		frees(t, b, kind, 1)
	}
	for i, v := range rootNumbers {
		wants(t, "SetRoot", b.SetRoot(i, v), api.OK)
	}
	commits(t, b, false, true, 5)
	want := make([][]byte, 15)
	for page := range want {
		want[page] = make([]byte, whole)
	}
	want[0] = append(rootOf(wide, rootNumbers)[:80], filled(6, 40)...)
	page := 1
	for kind := 1; kind <= 4; kind++ {
		for i := range 2 {
			records := map[int][]byte{}
			for slot := range perOf[kind] {
				if id := int64(i*perOf[kind] + slot + 1); id > 1 {
					records[slot] = recordOf(kind, id)
				}
			}
			want[page+i] = pageOf(kind, records)
		}
		page += countsOf(wide)[kind]
	}
	if got := contents(t, d); !slices.EqualFunc(got, want, bytes.Equal) {
		t.Errorf("the pages are % x, want % x", got, want)
	}
}

// TestP510Nothing: no page is changed: nothing is written or flushed, and what is held is given back.
func TestP510Nothing(t *testing.T) {
	for _, sync := range []bool{false, true} {
		d, s := made(t, 12, small)
		b := begins(t, s)
		gives(t, b, 1, 1)
		commits(t, b, false, false, 3)
		wants(t, "Reserve", s.Reserve(), api.OK)
		stat, still := s.Stat(), idle(t, d)
		b = begins(t, s)
		gives(t, b, 1, 2)
		frees(t, b, 1, 2)
		commits(t, b, false, sync, 0)
		stands(t, s, stat)
		commits(t, begins(t, s), true, sync, 0)
		stat.Log.Reserved, stat.Log.Free = 0, stat.Log.Free+8
		stands(t, s, stat)
		rejects(t, begins(t, s), true, sync, api.ErrReserve)
		commits(t, begins(t, s), false, sync, 0)
		stands(t, s, stat)
		still()
	}
}

// TestP510Held: the greatest batch's room is taken, and what is left of it is given back; with an error it stays.
func TestP510Held(t *testing.T) {
	_, s := made(t, 26, small) // a ring of 24, room for three
	for range 2 {
		wants(t, "Reserve", s.Reserve(), api.OK)
	}
	b := begins(t, s)
	gives(t, b, 1, 1)
	commits(t, b, true, true, 3)
	stands(t, s, api.PageStat{Pages: 6, Commits: 1, Dirty: 1, Oldest: 3, Log: logOf(24, 3, 5, 5, 8)})
	wants(t, "Reserve", s.Reserve(), api.OK)
	everyPage := func() *slots.Batch {
		b := begins(t, s)
		wants(t, "SetRoot", b.SetRoot(0, 1), api.OK)
		gives(t, b, 1, 2, 3, 4, 5, 6)
		gives(t, b, 2, 1)
		gives(t, b, 3, 1)
		gives(t, b, 4, 1)
		return b
	}
	before := fmt.Sprint(held(t, s), s.Stat())
	rejects(t, everyPage(), false, true, api.ErrLogFull) // 8 sectors; 6 are free
	if now := fmt.Sprint(held(t, s), s.Stat()); now != before {
		t.Errorf("a refused commit changes %s to %s", before, now)
	}
	commits(t, everyPage(), true, false, 5)
	stands(t, s, api.PageStat{Pages: 6, Commits: 2, Dirty: 6, Oldest: 3, Log: logOf(24, 3, 13, 5, 8)})
	wants(t, "Release", s.Release(), api.OK)
	b = begins(t, s)
	frees(t, b, 1, 1)
	before = fmt.Sprint(held(t, s), s.Stat())
	rejects(t, b, true, true, api.ErrReserve)
	if now := fmt.Sprint(held(t, s), s.Stat()); now != before {
		t.Errorf("a refused commit changes %s to %s", before, now)
	}
}

// many: a store of 300 pages.
var many = api.Sizes{Node: 296, Edge: 1, Prop: 1, Tree: 1}

// touched: a batch of such a store that changes so many pages.
func touched(t *testing.T, s *slots.Store, n int) *slots.Batch {
	t.Helper()
	b := begins(t, s)
	for i := range n {
		for slot := range 5 {
			gives(t, b, 1, int64(5*i+slot+1))
		}
	}
	return b
}

// TestP510Many: more than MaxBatch pages cannot be committed; what is held is given back all the same.
func TestP510Many(t *testing.T) {
	d, s := made(t, 610, many)
	b := touched(t, s, 257)
	still := idle(t, d)
	rejects(t, b, true, true, api.ErrReserve)
	rejects(t, touched(t, s, 257), false, true, api.ErrBatch)
	wants(t, "Reserve", s.Reserve(), api.OK)
	stands(t, s, api.PageStat{Pages: 300, Log: logOf(608, 3, 3, 3, 301)})
	rejects(t, touched(t, s, 257), false, true, api.ErrBatch)
	stands(t, s, api.PageStat{Pages: 300, Log: logOf(608, 3, 3, 3, 301)})
	rejects(t, touched(t, s, 260), true, true, api.ErrBatch)
	stands(t, s, api.PageStat{Pages: 300, Log: logOf(608, 3, 3, 3, 0)})
	lists(t, s, 1)
	still()
	b = touched(t, s, 258)
	frees(t, b, 1, 1, 2, 3, 4, 5) // two pages are as they were
	frees(t, b, 1, 1286, 1287, 1288, 1289, 1290)
	wants(t, "Reserve", s.Reserve(), api.OK)
	commits(t, b, true, true, 3)
	stands(t, s, api.PageStat{Pages: 300, Commits: 1, Dirty: 256, Oldest: 3, Log: logOf(608, 3, 304, 304, 0)})
}

// TestP510Sync: what the page store's Commit does with it and without it.
func TestP510Sync(t *testing.T) {
	for _, sync := range []bool{false, true} {
		d, s := made(t, 12, small)
		b := begins(t, s)
		gives(t, b, 1, 1)
		before := d.Stat()
		commits(t, b, false, sync, 3)
		flushes := 0
		if sync {
			flushes = 1
		}
		if now := d.Stat(); now.Writes != before.Writes+2 || now.Flushes != before.Flushes+flushes {
			t.Errorf("the disk has done %+v, before %+v", now, before)
		}
	}
}

func TestP511(t *testing.T) {
	d, s := made(t, 16, small)
	b := begins(t, s)
	gives(t, b, 1, 1)
	commits(t, b, false, false, 3)
	wants(t, "Reserve", s.Reserve(), api.OK)
	before, still := fmt.Sprint(held(t, s), s.Stat()), idle(t, d)
	b = begins(t, s)
	frees(t, b, 1, 1)
	gives(t, b, 4, 1)
	wants(t, "SetRoot", b.SetRoot(1, 1), api.OK)
	wants(t, "Drop", b.Drop(), api.OK)
	wants(t, "Drop", b.Drop(), api.ErrClosed)
	if now := fmt.Sprint(held(t, s), s.Stat()); now != before {
		t.Errorf("a dropped batch changes %s to %s", before, now)
	}
	still()
	b = begins(t, s) // nothing of the one before is in it
	lists(t, b, 1, 1)
	gives(t, b, 1, 2)
	commits(t, b, false, false, 5)
	lists(t, s, 1, 1, 2)
	lists(t, s, 4)
	roots(t, s, 1, 0)
}

// TestP512: while a batch is open, too; the batch doesn't see it.
func TestP512(t *testing.T) {
	d, s := made(t, 30, small)
	open := begins(t, s)
	gives(t, open, 1, 1)
	gives(t, open, 2, 1)
	commits(t, open, false, false, 3)
	open = begins(t, s)
	gives(t, open, 1, 2)
	puts(t, open, 1, 1, all(4, 20))
	sees := fmt.Sprint(held(t, open))
	stat := api.PageStat{Pages: 6, Commits: 1, Dirty: 2, Oldest: 3, Log: logOf(28, 3, 6, 3, 0)}
	stands(t, s, stat)
	wants(t, "Sync", s.Sync(), api.OK)
	stat.Log = logOf(28, 3, 6, 6, 0)
	stands(t, s, stat)
	for range 2 {
		wants(t, "Reserve", s.Reserve(), api.OK)
	}
	stat.Log = logOf(28, 3, 6, 6, 16)
	stands(t, s, stat)
	wants(t, "Reserve", s.Reserve(), api.OK)
	wants(t, "Reserve", s.Reserve(), api.ErrLogFull)
	for range 3 {
		wants(t, "Release", s.Release(), api.OK)
	}
	wants(t, "Release", s.Release(), api.ErrReserve)
	for _, most := range []int{-1, -1 << 63} {
		unsettled(t, s, most, api.ErrArg)
	}
	settles(t, s, 0, 0)
	settles(t, s, 1, 1)
	settles(t, s, 9, 1)
	stands(t, s, api.PageStat{Pages: 6, Commits: 1, Log: logOf(28, 6, 6, 6, 0)})
	if now := fmt.Sprint(held(t, open)); now != sees {
		t.Errorf("the batch sees %s, it saw %s", now, sees)
	}
	commits(t, open, false, true, 6)
	holds(t, opens(t, loaded(t, d.Image())), 1, 1, all(4, 20))
}

// TestP512Greatest: how much is set aside, of few pages and of many.
func TestP512Greatest(t *testing.T) {
	for _, z := range []api.Sizes{small, wide, {Node: 252, Edge: 1, Prop: 1, Tree: 1}, {Node: 251, Edge: 1, Prop: 1, Tree: 1}, {Node: 253, Edge: 1, Prop: 1, Tree: 1}, many} {
		_, s := made(t, 700, z)
		want := roomOf(min(pagesOf(z), 256))
		wants(t, "Reserve", s.Reserve(), api.OK)
		stands(t, s, api.PageStat{Pages: pagesOf(z), Log: logOf(698, 3, 3, 3, want)})
		wants(t, "Reserve", s.Reserve(), api.OK)
		wants(t, "Release", s.Release(), api.OK)
		stands(t, s, api.PageStat{Pages: pagesOf(z), Log: logOf(698, 3, 3, 3, want)})
		wants(t, "Release", s.Release(), api.OK)
		wants(t, "Release", s.Release(), api.ErrReserve)
	}
}

// TestP513: behind each call of a batch the store is as it was; behind the end without a commit, too.
func TestP513(t *testing.T) {
	for end := range 3 {
		s := someRecords(t, 22) // the log has one sector left
		before := fmt.Sprint(held(t, s), s.Stat())
		still := func(what string) {
			t.Helper()
			if now := fmt.Sprint(held(t, s), s.Stat()); now != before {
				t.Fatalf("%s: the store shows %s, before %s", what, now, before)
			}
		}
		b := begins(t, s)
		for kind := 1; kind <= 4; kind++ {
			gives(t, b, kind, 2)
			still("Alloc")
			puts(t, b, kind, 2, all(6, lengthOf[kind]))
			puts(t, b, kind, 1, all(6, lengthOf[kind]))
			still("Put")
			frees(t, b, kind, 1)
			still("Free")
		}
		wants(t, "SetRoot", b.SetRoot(2, 2), api.OK)
		still("SetRoot")
		switch end {
		case 0:
			wants(t, "Drop", b.Drop(), api.OK)
		case 1:
			rejects(t, b, false, true, api.ErrLogFull)
		default:
			rejects(t, b, true, true, api.ErrReserve)
		}
		still("the end")
		tellsAll(t, begins(t, s))
	}
}
