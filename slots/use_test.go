package slots_test

import (
	"bytes"
	"fmt"
	"math"
	"testing"

	"trellis/api"
	"trellis/slots"
)

// wide: sizes with more than one page of each kind.
var wide = api.Sizes{Node: 3, Edge: 2, Prop: 4, Tree: 5}

func TestP501Nil(t *testing.T) {
	var s *slots.Store
	var b *slots.Batch
	for _, r := range []reader{s, b} {
		if z := r.Sizes(); z != (api.Sizes{}) {
			t.Errorf("Sizes() = %v", z)
		}
		for _, n := range []int{1, 4, 0, 5, 9, -1} {
			lacks(t, r, n, int64(n), api.ErrArg)
			unlisted(t, r, n, api.ErrArg)
			unrooted(t, r, n, api.ErrArg)
		}
	}
	if got := s.Stat(); got != (api.PageStat{}) {
		t.Errorf("Stat() = %v", got)
	}
	unbegun(t, s, api.ErrArg)
	for _, most := range []int{0, 1, -1} {
		unsettled(t, s, most, api.ErrArg)
	}
	wants(t, "Sync", s.Sync(), api.ErrArg)
	wants(t, "Reserve", s.Reserve(), api.ErrArg)
	wants(t, "Release", s.Release(), api.ErrArg)
	for _, kind := range []int{1, 4, 0, 5} {
		denies(t, b, kind, api.ErrArg)
		wants(t, "Free", b.Free(kind, 1), api.ErrArg)
		wants(t, "Put", b.Put(kind, 1, nil), api.ErrArg)
		wants(t, "SetRoot", b.SetRoot(kind, 1), api.ErrArg)
	}
	rejects(t, b, false, false, api.ErrArg)
	rejects(t, b, true, true, api.ErrArg)
	wants(t, "Drop", b.Drop(), api.ErrArg)
}

// TestP501Memory: what is handed in is not kept, what is handed out is shared with nobody.
func TestP501Memory(t *testing.T) {
	_, s := made(t, 20, wide)
	b := begins(t, s)
	for kind := 1; kind <= 4; kind++ {
		gives(t, b, kind, 1, 2)
		rec := filled(kind, 200)[:lengthOf[kind]]
		spare := bytes.Clone(rec[:200])
		puts(t, b, kind, 2, rec)
		if !bytes.Equal(rec[:200], spare) {
			t.Errorf("Put changes what is handed in")
		}
		clear(rec)
		holds(t, b, kind, 2, spare[:lengthOf[kind]])
	}
	spoil := func(r reader) {
		for kind := 1; kind <= 4; kind++ {
			got, _ := r.Get(kind, 2)
			clear(got[:cap(got)])
			list, _ := r.Used(kind)
			clear(list[:cap(list)])
			holds(t, r, kind, 2, filled(kind, lengthOf[kind]))
			holds(t, r, kind, 1, all(0, lengthOf[kind]))
			lists(t, r, kind, 1, 2)
		}
	}
	spoil(b)
	commits(t, b, false, false, 3)
	spoil(s)
	b = begins(t, s)
	spoil(b)
}

// someRecords: a store of the wide sizes with records of all kinds.
func someRecords(t *testing.T, log int) *slots.Store {
	t.Helper()
	_, s := made(t, log, wide)
	b := begins(t, s)
	for kind := 1; kind <= 4; kind++ {
		for id := range capacityOf(wide, kind) {
			gives(t, b, kind, id+1)
			puts(t, b, kind, id+1, recordOf(kind, id+1))
		}
		for id := int64(2); id <= capacityOf(wide, kind); id += 2 {
			frees(t, b, kind, id)
		}
	}
	for i := range 8 {
		wants(t, "SetRoot", b.SetRoot(i, rootNumbers[i]), api.OK)
	}
	commits(t, b, false, true, 3)
	return s
}

func recordOf(kind int, id int64) []byte { return filled(kind*100+int(id), lengthOf[kind]) }

var rootNumbers = [8]int64{0, -1, math.MinInt64, math.MaxInt64, 1, 0x0102030405060708, -256, 1 << 32}

// tellsAll: of a store or a batch with what someRecords made: every answer of Get, Used and Root.
func tellsAll(t *testing.T, r reader) {
	t.Helper()
	if z := r.Sizes(); z != wide {
		t.Errorf("Sizes() = %v, want %v", z, wide)
	}
	for kind := 1; kind <= 4; kind++ {
		var ids []int64
		for id := int64(1); id <= capacityOf(wide, kind); id++ {
			if id%2 == 0 {
				lacks(t, r, kind, id, api.ErrSlotId)
				continue
			}
			ids = append(ids, id)
			holds(t, r, kind, id, recordOf(kind, id))
		}
		lists(t, r, kind, ids...)
		for _, id := range noIds(wide, kind) {
			lacks(t, r, kind, id, api.ErrSlotId)
		}
	}
	for i, want := range rootNumbers {
		roots(t, r, i, want)
	}
	faults(t, r)
}

// faults: of the arguments that are none of a store's, whatever it holds.
func faults(t *testing.T, r reader) {
	t.Helper()
	for _, kind := range noKinds {
		lacks(t, r, kind, 1, api.ErrSlotKind)
		lacks(t, r, kind, 0, api.ErrSlotKind)
		unlisted(t, r, kind, api.ErrSlotKind)
	}
	for _, i := range noRoots {
		unrooted(t, r, i, api.ErrArg)
	}
}

func TestP505(t *testing.T) {
	s := someRecords(t, 40)
	tellsAll(t, s)
	settles(t, s, 99, 13) // two pages of the tree have no record
	tellsAll(t, s)
	b := begins(t, s)
	for kind := 1; kind <= 4; kind++ { // nothing of an open batch
		gives(t, b, kind, 2)
		frees(t, b, kind, 1)
		puts(t, b, kind, 2, filled(9, lengthOf[kind]))
	}
	wants(t, "SetRoot", b.SetRoot(0, 9), api.OK)
	tellsAll(t, s)
}

// TestP505Form: which bytes of which pages the records and numbers are; what else stands there is not looked at.
func TestP505Form(t *testing.T) {
	d := formatted(t, 40, wide)
	node := pageOf(1, map[int][]byte{0: filled(1, 20), 4: filled(2, 20)})
	node[0], node[1] = 0xff, node[1]|0xe0
	edge := pageOf(2, map[int][]byte{1: filled(3, 36)})
	copy(edge[110:], filled(8, 10))
	copy(edge[2:], filled(8, 36))
	edge[1] |= 8
	c := rewritten(t, d,
		api.PageImage{Page: 2, Data: node}, api.PageImage{Page: 5, Data: edge},
		api.PageImage{Page: 6, Data: pageOf(3, map[int][]byte{1: filled(4, 48)})}, api.PageImage{Page: 14, Data: pageOf(4, map[int][]byte{0: filled(5, 118)})},
		api.PageImage{Page: 0, Data: append(rootOf(wide, rootNumbers)[:80], filled(6, 40)...)})
	s := opens(t, c)
	for _, r := range []reader{s, begins(t, s)} {
		lists(t, r, 1, 6, 10)
		holds(t, r, 1, 6, filled(1, 20))
		holds(t, r, 1, 10, filled(2, 20))
		lists(t, r, 2, 5)
		holds(t, r, 2, 5, filled(3, 36))
		lists(t, r, 3, 2)
		holds(t, r, 3, 2, filled(4, 48))
		lists(t, r, 4, 5)
		holds(t, r, 4, 5, filled(5, 118))
		for i, want := range rootNumbers {
			roots(t, r, i, want)
		}
	}
}

// TestP505Unread: a page that cannot be read is told by the calls that look at it, and by no others.
func TestP505Unread(t *testing.T) {
	d := formatted(t, 40, wide)
	for kind, page := range map[int]int{1: 2, 2: 5, 3: 7, 4: 11} { // the second page of each kind
		c := broken(t, d, 40, page)
		s := opens(t, c)
		b := begins(t, s)
		id := int64(perOf[kind])
		for _, r := range []reader{s, b} {
			for other := 1; other <= 4; other++ {
				if other == kind {
					unlisted(t, r, other, api.ErrPage)
					lacks(t, r, other, id+1, api.ErrPage)
				} else {
					lists(t, r, other)
					lacks(t, r, other, int64(perOf[other])+1, api.ErrSlotId)
				}
			}
			lacks(t, r, kind, id, api.ErrSlotId)
		}
		wants(t, "Free", b.Free(kind, id+1), api.ErrPage)
		wants(t, "Put", b.Put(kind, id+1, all(1, lengthOf[kind])), api.ErrPage)
		for i := range id {
			gives(t, b, kind, i+1)
		}
		denies(t, b, kind, api.ErrPage)
		commits(t, b, false, true, 3)
		for i := range id {
			holds(t, opens(t, c), kind, i+1, all(0, lengthOf[kind]))
		}
	}
}

func TestP506(t *testing.T) {
	s := someRecords(t, 40)
	for end := range 3 {
		b := begins(t, s)
		tellsAll(t, b)
		unbegun(t, s, api.ErrOpen)
		settles(t, s, end+1, end+1)
		unbegun(t, s, api.ErrOpen)
		tellsAll(t, b)
		switch end {
		case 0:
			wants(t, "Drop", b.Drop(), api.OK)
		case 1:
			commits(t, b, false, false, 0)
		default:
			rejects(t, b, true, false, api.ErrReserve)
		}
		if z := b.Sizes(); z != wide {
			t.Errorf("Sizes() = %v, want %v, behind the end too", z, wide)
		}
	}
}

// TestP506Two: a batch of one store is none of another one.
func TestP506Two(t *testing.T) {
	_, one := made(t, 8, small)
	_, two := made(t, 8, small)
	begins(t, one)
	begins(t, two)
}

// ended: what a batch that has ended answers, whatever its store is: to a store of the small sizes nothing is done.
func ended(t *testing.T, b *slots.Batch) {
	t.Helper()
	if z := b.Sizes(); z != small {
		t.Errorf("Sizes() = %v, want %v", z, small)
	}
	faults(t, b)
	for kind := 1; kind <= 4; kind++ {
		for _, id := range noIds(small, kind) {
			lacks(t, b, kind, id, api.ErrSlotId)
			wants(t, "Free", b.Free(kind, id), api.ErrSlotId)
			wants(t, "Put", b.Put(kind, id, all(1, lengthOf[kind])), api.ErrSlotId)
		}
		for id := int64(1); id <= capacityOf(small, kind); id++ {
			lacks(t, b, kind, id, api.ErrClosed)
			wants(t, "Free", b.Free(kind, id), api.ErrClosed)
			wants(t, "Put", b.Put(kind, id, all(1, lengthOf[kind])), api.ErrClosed)
			wants(t, "Put", b.Put(kind, id, all(1, lengthOf[kind]-1)), api.ErrSlotSize)
		}
		unlisted(t, b, kind, api.ErrClosed)
		denies(t, b, kind, api.ErrClosed)
	}
	for _, kind := range noKinds {
		denies(t, b, kind, api.ErrSlotKind)
		wants(t, "Free", b.Free(kind, 0), api.ErrSlotKind)
		wants(t, "Put", b.Put(kind, 0, nil), api.ErrSlotKind)
	}
	for i := range 8 {
		unrooted(t, b, i, api.ErrClosed)
		wants(t, "SetRoot", b.SetRoot(i, 1), api.ErrClosed)
	}
	for _, i := range noRoots {
		wants(t, "SetRoot", b.SetRoot(i, 1), api.ErrArg)
	}
	rejects(t, b, false, false, api.ErrClosed)
	rejects(t, b, true, true, api.ErrClosed)
	wants(t, "Drop", b.Drop(), api.ErrClosed)
}

// TestP509Ended: behind a Commit, a Drop and a Commit with an error, alone and while another batch is open.
func TestP509Ended(t *testing.T) {
	_, s := made(t, 8, small)
	for end := range 4 {
		b := begins(t, s)
		switch end {
		case 0:
			wants(t, "Drop", b.Drop(), api.OK)
		case 1:
			gives(t, b, 1, 1)
			commits(t, b, false, true, 3)
		case 2:
			gives(t, b, 1, 2)
			gives(t, b, 2, 1)
			gives(t, b, 3, 1)
			gives(t, b, 4, 1)
			rejects(t, b, false, true, api.ErrLogFull)
		default:
			gives(t, b, 1, 2)
			rejects(t, b, true, true, api.ErrReserve)
		}
		before := fmt.Sprint(held(t, s), s.Stat())
		ended(t, b)
		next := begins(t, s)
		ended(t, b)
		unbegun(t, s, api.ErrOpen)
		if now := fmt.Sprint(held(t, s), s.Stat()); now != before {
			t.Errorf("an ended batch changes %s to %s", before, now)
		}
		wants(t, "Drop", next.Drop(), api.OK)
	}
}

// TestP507: each kind, up to its capacity and beyond.
func TestP507(t *testing.T) {
	_, s := made(t, 40, wide)
	b := begins(t, s)
	for kind := 1; kind <= 4; kind++ {
		for id := range capacityOf(wide, kind) {
			lacks(t, b, kind, id+1, api.ErrSlotId)
			gives(t, b, kind, id+1)
			holds(t, b, kind, id+1, all(0, lengthOf[kind]))
			puts(t, b, kind, id+1, recordOf(kind, id+1))
		}
		denies(t, b, kind, api.ErrSlotFull)
		denies(t, b, kind, api.ErrSlotFull)
	}
	for kind := 1; kind <= 4; kind++ { // no record lies over another one
		for id := range capacityOf(wide, kind) {
			holds(t, b, kind, id+1, recordOf(kind, id+1))
		}
	}
	for _, kind := range noKinds {
		denies(t, b, kind, api.ErrSlotKind)
	}
	commits(t, b, false, true, 3)
	b = begins(t, s)
	for kind := 1; kind <= 4; kind++ {
		denies(t, b, kind, api.ErrSlotFull)
	}
}

// TestP507Zero: the record is of zeros, also where the free slot was not.
func TestP507Zero(t *testing.T) {
	page := pageOf(1, map[int][]byte{1: filled(1, 20)})
	copy(page[2:22], filled(2, 20))
	s := opens(t, rewritten(t, formatted(t, 8, small), api.PageImage{Page: 1, Data: page}))
	b := begins(t, s)
	gives(t, b, 1, 1)
	holds(t, b, 1, 1, all(0, 20))
	holds(t, b, 1, 2, filled(1, 20))
	frees(t, b, 1, 2)
	gives(t, b, 1, 2)
	holds(t, b, 1, 2, all(0, 20))
}

func TestP508(t *testing.T) {
	s := someRecords(t, 40)
	b := begins(t, s)
	for kind := 1; kind <= 4; kind++ {
		for _, id := range noIds(wide, kind) {
			wants(t, "Free", b.Free(kind, id), api.ErrSlotId)
		}
		wants(t, "Free", b.Free(kind, 2), api.ErrSlotId)
		tellsAll(t, b)
		frees(t, b, kind, 1)
		lacks(t, b, kind, 1, api.ErrSlotId)
		wants(t, "Free", b.Free(kind, 1), api.ErrSlotId)
		wants(t, "Put", b.Put(kind, 1, recordOf(kind, 1)), api.ErrSlotId)
		if id := int64(3); capacityOf(wide, kind) >= id {
			holds(t, b, kind, id, recordOf(kind, id))
		}
		gives(t, b, kind, 1)
		puts(t, b, kind, 1, recordOf(kind, 1))
	}
	for _, kind := range noKinds {
		wants(t, "Free", b.Free(kind, 1), api.ErrSlotKind)
		wants(t, "Free", b.Free(kind, 0), api.ErrSlotKind)
	}
	tellsAll(t, b)
}

func TestP509Put(t *testing.T) {
	s := someRecords(t, 40)
	b := begins(t, s)
	for kind := 1; kind <= 4; kind++ {
		for _, id := range noIds(wide, kind) {
			wants(t, "Put", b.Put(kind, id, all(1, lengthOf[kind])), api.ErrSlotId)
			wants(t, "Put", b.Put(kind, id, nil), api.ErrSlotId)
		}
		for _, n := range []int{0, 1, lengthOf[kind] - 1, lengthOf[kind] + 1, 120, 1000} {
			wants(t, "Put", b.Put(kind, 1, all(1, n)), api.ErrSlotSize)
			wants(t, "Put", b.Put(kind, 2, all(1, n)), api.ErrSlotSize)
		}
		wants(t, "Put", b.Put(kind, 2, all(1, lengthOf[kind])), api.ErrSlotId)
	}
	for _, kind := range noKinds {
		wants(t, "Put", b.Put(kind, 1, all(1, 20)), api.ErrSlotKind)
		wants(t, "Put", b.Put(kind, 0, nil), api.ErrSlotKind)
	}
	tellsAll(t, b)
	puts(t, b, 2, 5, all(8, 36))
	holds(t, b, 2, 5, all(8, 36))
	holds(t, s, 2, 5, recordOf(2, 5))
	puts(t, b, 2, 5, recordOf(2, 5))
	tellsAll(t, b)
}

func TestP509SetRoot(t *testing.T) {
	s := someRecords(t, 40)
	b := begins(t, s)
	for _, i := range noRoots {
		wants(t, "SetRoot", b.SetRoot(i, 5), api.ErrArg)
	}
	tellsAll(t, b)
	for i := range 8 {
		for _, v := range append([]int64{0, -2, 77}, rootNumbers[:]...) {
			wants(t, "SetRoot", b.SetRoot(i, v), api.OK)
			roots(t, b, i, v)
			roots(t, s, i, rootNumbers[i])
		}
		wants(t, "SetRoot", b.SetRoot(i, rootNumbers[i]), api.OK)
		tellsAll(t, b)
	}
}

// TestP514: whatever is free, the least of it comes first.
func TestP514(t *testing.T) {
	s := someRecords(t, 40)
	b := begins(t, s)
	gives(t, b, 1, 2, 4, 6)
	frees(t, b, 1, 4, 15, 1)
	gives(t, b, 1, 1, 4, 8, 10, 12, 14, 15)
	denies(t, b, 1, api.ErrSlotFull)
	frees(t, b, 1, 11)
	gives(t, b, 1, 11)
	commits(t, b, false, true, 3+int64(roomOf(13)))
	b = begins(t, s)
	frees(t, b, 1, 9, 3)
	gives(t, b, 1, 3, 9)
	denies(t, b, 1, api.ErrSlotFull)
	gives(t, b, 4, 2, 4)
	denies(t, b, 4, api.ErrSlotFull)
}
