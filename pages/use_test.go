package pages_test

import (
	"bytes"
	"math"
	"slices"
	"testing"

	"trellis/api"
	"trellis/disk"
	"trellis/pages"
)

func TestP404Pages(t *testing.T) {
	_, s := made(t)
	commits(t, s, batch(image(0, 3), image(19, 4)), 0, false, 1)
	for page := range 20 {
		holds(t, s, page, full(map[int]byte{0: 3, 19: 4}[page]))
	}
	for _, page := range append([]int{20, 21, 1023, 1024}, numbers...) {
		unread(t, s, page, api.ErrPage)
	}
}

// TestP404Homes: a sector that is no home of the page is told, and the store lives on; a page that is dirty isn't looked for there.
func TestP404Homes(t *testing.T) {
	for i, sector := range [][]byte{
		homeOf(4, full(0)), homeOf(2, full(0)), homeOf(3+1<<8, full(0)), homeOf(3+1<<24, full(0)), make([]byte, size), filled(1, size), labelOf(12, 20).bytes(), sealed(homeOf(3, full(5))[4:], 0, 1),
	} {
		d := loaded(t, replaced(formatted(t, 64, 12, 20), 13+3, sector))
		s := opens(t, d)
		unread(t, s, 3, api.ErrPage)
		holds(t, s, 2, full(0))
		holds(t, s, 4, full(0))
		commits(t, s, run(3, 1, 9), 0, true, 1)
		holds(t, s, 3, full(9))
		settles(t, s, 1, 1)
		holds(t, s, 3, full(9))
		if t.Failed() {
			t.Fatalf("case %d", i)
		}
	}
	home := filled(6, whole)
	holds(t, opens(t, loaded(t, replaced(formatted(t, 64, 12, 20), 13+3, homeOf(3, home)))), 3, home)
}

func TestP404SpoiltBits(t *testing.T) {
	d := loaded(t, replaced(formatted(t, 64, 12, 20), 13+3, homeOf(3, filled(4, whole))))
	for bit := range 8 * size {
		b := d.Image()
		b[(13+3)*size+bit/8] ^= 1 << (bit % 8)
		s := opens(t, loaded(t, b))
		unread(t, s, 3, api.ErrPage)
		holds(t, s, 4, full(0))
	}
}

func TestP404DoesNothing(t *testing.T) {
	d, s := made(t)
	commits(t, s, run(0, 1, 3), 0, false, 1)
	d.Cut(0)
	still, stat := idle(t, d), s.Stat()
	holds(t, s, 0, full(3))
	holds(t, s, 1, full(0))
	unread(t, s, 20, api.ErrPage)
	stands(t, s, stat)
	still()
}

// TestP401OwnMemory: what is handed in and out is nobody else's.
func TestP401OwnMemory(t *testing.T) {
	_, s := made(t)
	room := filled(1, 3*whole)
	given := batch(api.PageImage{Page: 3, Data: room[whole : 2*whole]}, image(1, 9))
	spare := append(given, image(7, 7))[:2]
	commits(t, s, spare, 0, false, 1)
	if !bytes.Equal(room, filled(1, 3*whole)) || spare[0].Page != 3 || spare[1].Page != 1 || spare[:3][2].Page != 7 || !bytes.Equal(spare[1].Data, full(9)) {
		t.Errorf("what was handed in was changed")
	}
	want := slices.Clone(room[whole : 2*whole])
	clear(room)
	spare[0], spare[1] = image(5, 5), image(6, 6)
	holds(t, s, 3, want)
	holds(t, s, 5, full(0))
	for _, page := range []int{3, 4} { // one in the log, one at home
		was, _ := s.Read(page)
		was = slices.Clone(was)
		got, _ := s.Read(page)
		other, _ := s.Read(page)
		if cap(got) > len(got) {
			for i := range got[:cap(got)] {
				got[:cap(got)][i] = 77
			}
		}
		for i := range got {
			got[i] = 77
		}
		if !bytes.Equal(other, was) {
			t.Errorf("two answers share memory")
		}
		holds(t, s, page, was)
	}
	settles(t, s, 9, 2)
	holds(t, s, 3, want)
	holds(t, s, 1, full(9))
}

// TestP401TwoStores: stores on two disks share nothing.
func TestP401TwoStores(t *testing.T) {
	_, a := made(t)
	_, b := made(t)
	commits(t, a, run(0, 3, 1), 0, true, 1)
	wants(t, "Reserve", b.Reserve(1), api.OK)
	stands(t, a, api.PageStat{Pages: 20, Commits: 1, Dirty: 3, Oldest: 1, Log: logOf(10, 1, 5, 5, 0)})
	stands(t, b, api.PageStat{Pages: 20, Log: logOf(10, 1, 1, 1, 2)})
	holds(t, b, 0, full(0))
}

func TestP401NilStore(t *testing.T) {
	var s *pages.Store
	for _, n := range append([]int{0, 1, 2, 256, 257}, numbers...) {
		unread(t, s, n, api.ErrArg)
		unsettled(t, s, n, api.ErrArg)
		wants(t, "Reserve", s.Reserve(n), api.ErrArg)
		wants(t, "Release", s.Release(n), api.ErrArg)
		rejects(t, s, run(0, 1, 1), n, api.ErrArg)
		rejects(t, s, nil, n, api.ErrArg)
	}
	wants(t, "Sync", s.Sync(), api.ErrArg)
	stands(t, s, api.PageStat{})
}

// TestP405Faults: each fault, ahead of those that are named behind it.
func TestP405Faults(t *testing.T) {
	bare := api.PageImage{Page: 3}
	long := api.PageImage{Page: 3, Data: filled(1, 121)}
	short := api.PageImage{Page: 99, Data: filled(1, 119)}
	twice := run(0, 257, 1)
	for i := range twice {
		twice[i].Page = 1
	}
	cases := []struct {
		batch []api.PageImage
		held  int
		want  api.Errno
	}{
		{nil, -1, api.ErrArg}, {nil, 257, api.ErrArg}, {nil, math.MaxInt, api.ErrArg}, {nil, math.MinInt, api.ErrArg}, {batch(short), -1, api.ErrArg}, {run(0, 1, 1), 257, api.ErrArg}, {run(0, 1, 1), -1, api.ErrArg},
		{nil, 0, api.ErrBatch}, {batch(), 0, api.ErrBatch}, {nil, 1, api.ErrBatch}, {nil, 256, api.ErrBatch}, {twice, 0, api.ErrBatch}, {twice, 5, api.ErrBatch}, {batch(bare), 0, api.ErrBatch}, {batch(long), 0, api.ErrBatch}, {batch(short), 0, api.ErrBatch},
		{batch(image(99, 1), bare), 0, api.ErrBatch}, {batch(image(1, 1), image(1, 1), long), 1, api.ErrBatch}, {batch(bare, bare), 1, api.ErrBatch}, {append(run(0, 5, 1), api.PageImage{Page: 9, Data: []byte{}}), 0, api.ErrBatch},
		{twice[:256], 0, api.ErrPage}, {twice[:256], 1, api.ErrPage}, {run(0, 21, 1), 0, api.ErrPage}, {run(20, 1, 1), 0, api.ErrPage}, {run(-1, 3, 1), 0, api.ErrPage}, {run(0, 256, 1), 0, api.ErrPage}, {batch(image(math.MaxInt, 1)), 0, api.ErrPage}, {batch(image(math.MinInt, 1)), 0, api.ErrPage},
		{batch(image(1<<16, 1)), 0, api.ErrPage}, {batch(image(1024, 1)), 3, api.ErrPage}, {append(run(0, 5, 1), image(2, 9)), 0, api.ErrPage}, {append(run(0, 5, 1), image(4, 9)), 3, api.ErrPage}, {append(run(0, 5, 1), image(0, 9)), 256, api.ErrPage},
		{run(0, 2, 1), 1, api.ErrArg}, {run(0, 20, 1), 19, api.ErrArg}, {run(0, 6, 1), 5, api.ErrArg},
		{run(0, 2, 1), 2, api.ErrReserve}, {run(0, 2, 1), 256, api.ErrReserve}, {run(0, 6, 1), 6, api.ErrReserve}, {run(0, 1, 1), 4, api.ErrReserve},
		{run(0, 9, 1), 0, api.ErrLogFull}, {run(0, 20, 1), 0, api.ErrLogFull},
	}
	d, s := made(t)
	wants(t, "Reserve", s.Reserve(1), api.OK)
	still, stat := idle(t, d), s.Stat()
	for _, c := range cases {
		rejects(t, s, c.batch, c.held, c.want)
	}
	stands(t, s, stat)
	still()
	if !bytes.Equal(contents(t, s), make([]byte, 20*whole)) {
		t.Errorf("a refused commit left something")
	}
}

// TestP405Acts: the record's bytes, in the batch's order, and the flush.
func TestP405Acts(t *testing.T) {
	list := batch(api.PageImage{Page: 17, Data: filled(1, whole)}, api.PageImage{Page: 2, Data: filled(2, whole)}, api.PageImage{Page: 11, Data: filled(3, whole)})
	for _, held := range []int{0, 3, 5} {
		for _, sync := range []bool{false, true} {
			begin := func() (*disk.Disk, func() api.Errno) {
				d, s := made(t)
				commits(t, s, run(17, 1, 8), 0, true, 1)
				if held != 0 {
					wants(t, "Reserve", s.Reserve(held), api.OK)
				}
				return d, func() api.Errno {
					lsn, code := s.Commit(list, held, sync)
					if code == api.OK && lsn != 3 {
						t.Errorf("Commit = %d, want 3", lsn)
					}
					return code
				}
			}
			var ops []operation
			for i, b := range recordOf(2, 3, 1, payloadOf(list...)) {
				ops = append(ops, operation{5 + i, b})
			}
			if sync {
				ops = append(ops, operation{})
			}
			does(t, begin, ops)
		}
	}
}

// TestP405Held: what the record takes comes out of what is set aside, and the rest of the held room is given back, no more.
func TestP405Held(t *testing.T) {
	for held := 1; held <= 8; held++ {
		for count := 1; count <= held; count++ {
			d := formatted(t, 64, 20, 20)
			s := opens(t, d)
			wants(t, "Reserve", s.Reserve(held), api.OK)
			wants(t, "Reserve", s.Reserve(1), api.OK)
			commits(t, s, run(0, count, 1), held, false, 1)
			stands(t, s, api.PageStat{Pages: 20, Commits: 1, Dirty: count, Oldest: 1, Log: logOf(18, 1, 1+int64(roomOf(count)), 1, roomOf(1))})
		}
	}
}

// TestP405FreeAndAside: without held, what is set aside is not touched; with held, what is free isn't.
func TestP405FreeAndAside(t *testing.T) {
	_, s := made(t)
	wants(t, "Reserve", s.Reserve(5), api.OK) // 6 of 10
	rejects(t, s, run(0, 4, 1), 0, api.ErrLogFull)
	commits(t, s, run(0, 3, 1), 0, false, 1)
	rejects(t, s, run(0, 1, 1), 0, api.ErrLogFull)
	rejects(t, s, run(0, 1, 1), 6, api.ErrReserve)
	stands(t, s, api.PageStat{Pages: 20, Commits: 1, Dirty: 3, Oldest: 1, Log: logOf(10, 1, 5, 1, 6)})
	commits(t, s, run(4, 5, 1), 5, true, 5)
	stands(t, s, api.PageStat{Pages: 20, Commits: 2, Dirty: 8, Oldest: 1, Log: logOf(10, 1, 11, 11, 0)})
}

// TestP405Greatest: a commit of 256 pages.
func TestP405Greatest(t *testing.T) {
	d := formatted(t, 700, 303, 300)
	s := opens(t, d)
	wants(t, "Reserve", s.Reserve(256), api.OK)
	stands(t, s, api.PageStat{Pages: 300, Log: logOf(301, 1, 1, 1, 301)})
	commits(t, s, run(44, 256, 3), 256, true, 1)
	stands(t, s, api.PageStat{Pages: 300, Commits: 1, Dirty: 256, Oldest: 1, Log: logOf(301, 1, 302, 302, 0)})
	rejects(t, s, run(44, 257, 3), 0, api.ErrBatch)
	rejects(t, s, run(44, 256, 3), 0, api.ErrLogFull)
	d.Crash(nil)
	s = opens(t, d)
	for i := range 256 {
		holds(t, s, 44+i, full(3+byte(i)))
	}
	settles(t, s, 300, 256)
	commits(t, s, run(44, 256, 5), 0, true, 302)
}

// nearEnd: a store whose log is empty, at that lsn and that turn.
func nearEnd(t *testing.T, lsn, turn int64) (*disk.Disk, *pages.Store) {
	t.Helper()
	d := loaded(t, replaced(formatted(t, 64, 12, 20), 1+int(turn%2), headOf(5, lsn, turn, 3, 12)))
	return d, opens(t, d)
}

// TestP405LsnsRunOut: ErrLogFull, also where the room is set aside; it stays so.
func TestP405LsnsRunOut(t *testing.T) {
	d, s := nearEnd(t, maxLsn-3, 6)
	commits(t, s, run(0, 1, 4), 0, true, maxLsn-3)
	wants(t, "Reserve", s.Reserve(2), api.OK)
	still, stat := idle(t, d), s.Stat()
	rejects(t, s, run(0, 2, 1), 2, api.ErrLogFull)
	rejects(t, s, run(0, 2, 1), 0, api.ErrLogFull)
	stands(t, s, stat)
	still()
	holds(t, s, 0, full(4))
	commits(t, s, run(0, 1, 5), 2, true, maxLsn-1)
	stands(t, s, api.PageStat{Pages: 20, Commits: 2, Dirty: 1, Oldest: maxLsn - 3, Log: logOf(10, maxLsn-3, maxLsn+1, maxLsn+1, 0)})
	rejects(t, s, run(0, 1, 6), 0, api.ErrLogFull)
	unsettled(t, s, 1, api.ErrLogFull) // no log begins behind the last lsn
	stands(t, s, api.PageStat{Pages: 20, Commits: 2, Log: logOf(10, maxLsn-3, maxLsn+1, maxLsn+1, 0)})
	holds(t, s, 0, full(5))
}

func TestP406(t *testing.T) {
	d, s := made(t)
	still := idle(t, d)
	wants(t, "Sync", s.Sync(), api.OK)
	still()
	commits(t, s, run(0, 2, 1), 0, false, 1)
	commits(t, s, run(1, 2, 5), 0, false, 4)
	before := d.Stat()
	wants(t, "Sync", s.Sync(), api.OK)
	if now := d.Stat(); now.Flushes != before.Flushes+1 || now.Writes != before.Writes || now.Pending != 0 {
		t.Errorf("Sync has done %+v, before it were %+v", now, before)
	}
	stands(t, s, api.PageStat{Pages: 20, Commits: 2, Dirty: 3, Oldest: 1, Log: logOf(10, 1, 7, 7, 0)})
	still = idle(t, d)
	wants(t, "Sync", s.Sync(), api.OK)
	still()
}

// ready: a store with five dirty pages: 4 and 9 of first 1, 2 and 6 of first 4, 0 of first 7; 9 and 6 were committed again.
func ready(t *testing.T, sync bool) (*disk.Disk, *pages.Store) {
	t.Helper()
	d := formatted(t, 64, 18, 12)
	s := opens(t, d)
	commits(t, s, batch(image(9, 1), image(4, 2)), 0, true, 1)
	commits(t, s, batch(image(6, 3), image(2, 4)), 0, true, 4)
	commits(t, s, batch(image(9, 5), image(6, 6), image(0, 7)), 0, sync, 7)
	return d, s
}

// homes: what ready's pages have, in the order of their being written.
var homes = []operation{{19 + 4, homeOf(4, full(2))}, {19 + 9, homeOf(9, full(5))}, {19 + 2, homeOf(2, full(4))}, {19 + 6, homeOf(6, full(6))}, {19 + 0, homeOf(0, full(7))}}

// TestP407Acts: of each number of pages, with the log flushed and not.
func TestP407Acts(t *testing.T) {
	for most, cut := range []int64{1, 1, 4, 4, 7, 11, 11} {
		for _, sync := range []bool{false, true} {
			begin := func() (*disk.Disk, func() api.Errno) {
				d, s := ready(t, sync)
				return d, func() api.Errno {
					n, code := s.Checkpoint(most)
					if code == api.OK && n != min(most, 5) {
						t.Errorf("Checkpoint(%d) = %d", most, n)
					}
					return code
				}
			}
			var ops []operation
			if !sync && most > 0 {
				ops = append(ops, operation{})
			}
			ops = append(ops, homes[:min(most, 5)]...)
			if most > 0 {
				ops = append(ops, operation{})
			}
			if cut > 1 {
				ops = append(ops, operation{1, headOf(2, cut, 4, 2, 18)}, operation{})
			}
			does(t, begin, ops)
		}
	}
}

func TestP407Cleans(t *testing.T) {
	for most, cut := range []int64{1, 1, 4, 4, 7, 11} {
		_, s := ready(t, true)
		settles(t, s, most, most)
		oldest := cut
		if most == 5 {
			oldest = 0
		}
		stands(t, s, api.PageStat{Pages: 12, Commits: 3, Dirty: 5 - most, Oldest: oldest, Log: logOf(16, cut, 11, 11, 0)})
		for page, b := range []byte{7, 0, 4, 0, 2, 0, 6, 0, 0, 5, 0, 0} {
			holds(t, s, page, full(b))
		}
	}
}

func TestP407Numbers(t *testing.T) {
	d, s := ready(t, false)
	still, stat := idle(t, d), s.Stat()
	for _, n := range []int{-1, -2, math.MinInt} {
		unsettled(t, s, n, api.ErrArg)
	}
	settles(t, s, 0, 0)
	still()
	stands(t, s, stat)
	settles(t, s, math.MaxInt, 5)
	still = idle(t, d)
	for _, n := range []int{0, 1, 12, math.MaxInt} {
		settles(t, s, n, 0)
	}
	still()
}

// TestP407NewFirst: a page that was clean and is committed again has a new first; one that is dirty keeps the one it has.
func TestP407NewFirst(t *testing.T) {
	d, s := ready(t, true)
	settles(t, s, 2, 2) // 4 and 9
	commits(t, s, batch(image(4, 20), image(2, 21)), 0, true, 11)
	stands(t, s, api.PageStat{Pages: 12, Commits: 4, Dirty: 4, Oldest: 4, Log: logOf(16, 4, 14, 14, 0)})
	settles(t, s, 2, 2) // 2 and 6
	stands(t, s, api.PageStat{Pages: 12, Commits: 4, Dirty: 2, Oldest: 7, Log: logOf(16, 7, 14, 14, 0)})
	settles(t, s, 1, 1) // 0
	stands(t, s, api.PageStat{Pages: 12, Commits: 4, Dirty: 1, Oldest: 11, Log: logOf(16, 11, 14, 14, 0)})
	settles(t, s, 1, 1) // 4
	stands(t, s, api.PageStat{Pages: 12, Commits: 4, Log: logOf(16, 14, 14, 14, 0)})
	b := d.Image()
	for page, v := range map[int]byte{4: 20, 9: 5, 2: 21, 6: 6, 0: 7} {
		if at := (19 + page) * size; !bytes.Equal(b[at:at+size], homeOf(page, full(v))) {
			t.Errorf("the home of page %d is % x", page, b[at:at+size])
		}
	}
}

// TestP407TurnsRunOut: the cut is refused; the pages are clean all the same.
func TestP407TurnsRunOut(t *testing.T) {
	d, s := nearEnd(t, 100, maxTurn-2)
	commits(t, s, run(0, 1, 1), 0, true, 100)
	settles(t, s, 1, 1)
	stands(t, s, api.PageStat{Pages: 20, Commits: 1, Log: logOf(10, 102, 102, 102, 0)})
	commits(t, s, batch(image(3, 3), image(1, 4)), 0, false, 102)
	commits(t, s, run(2, 1, 5), 0, false, 105)
	settles(t, s, 1, 1) // the log still begins where it is wanted
	unsettled(t, s, 1, api.ErrLogFull)
	stands(t, s, api.PageStat{Pages: 20, Commits: 3, Dirty: 1, Oldest: 105, Log: logOf(10, 102, 107, 107, 0)})
	unsettled(t, s, 9, api.ErrLogFull)
	stands(t, s, api.PageStat{Pages: 20, Commits: 3, Log: logOf(10, 102, 107, 107, 0)})
	b := d.Image()
	for page, v := range []byte{1, 4, 5, 3} {
		holds(t, s, page, full(v))
		if at := (13 + page) * size; !bytes.Equal(b[at:at+size], homeOf(page, full(v))) {
			t.Errorf("the home of page %d is % x", page, b[at:at+size])
		}
	}
	still := idle(t, d)
	settles(t, s, 9, 0)
	still()
	commits(t, s, run(7, 1, 7), 0, true, 107)
	holds(t, s, 7, full(7))
}

func TestP408(t *testing.T) {
	d, s := made(t)
	still := idle(t, d)
	for _, n := range append([]int{0, 257}, numbers...) {
		wants(t, "Reserve", s.Reserve(n), api.ErrArg)
		wants(t, "Release", s.Release(n), api.ErrArg)
	}
	wants(t, "Reserve(256)", s.Reserve(256), api.ErrLogFull)
	wants(t, "Reserve(9)", s.Reserve(9), api.ErrLogFull)
	wants(t, "Reserve(8)", s.Reserve(8), api.OK) // all ten
	stands(t, s, api.PageStat{Pages: 20, Log: logOf(10, 1, 1, 1, 10)})
	wants(t, "Reserve(1)", s.Reserve(1), api.ErrLogFull)
	wants(t, "Release(9)", s.Release(9), api.ErrReserve)
	wants(t, "Release(256)", s.Release(256), api.ErrReserve)
	wants(t, "Release(7)", s.Release(7), api.OK) // nine
	stands(t, s, api.PageStat{Pages: 20, Log: logOf(10, 1, 1, 1, 1)})
	wants(t, "Release(1)", s.Release(1), api.ErrReserve)
	wants(t, "Reserve(7)", s.Reserve(7), api.OK)
	wants(t, "Release(8)", s.Release(8), api.OK)
	stands(t, s, api.PageStat{Pages: 20, Log: logOf(10, 1, 1, 1, 0)})
	still()
}

// TestP408Rooms: the room of each number of pages.
func TestP408Rooms(t *testing.T) {
	s := opens(t, formatted(t, 400, 340, 5))
	for n := 1; n <= 256; n++ {
		wants(t, "Reserve", s.Reserve(n), api.OK)
		stands(t, s, api.PageStat{Pages: 5, Log: logOf(338, 1, 1, 1, roomOf(n))})
		wants(t, "Release", s.Release(n), api.OK)
	}
	for n, want := range map[int]int{1: 2, 2: 3, 12: 15, 256: 301} {
		if roomOf(n) != want {
			t.Errorf("the room of %d pages is %d, want %d", n, roomOf(n), want)
		}
	}
}

// TestP409Redone: Commits counts since Open, Redone what it played again.
func TestP409Redone(t *testing.T) {
	d, s := ready(t, true)
	stands(t, s, api.PageStat{Pages: 12, Commits: 3, Dirty: 5, Oldest: 1, Log: logOf(16, 1, 11, 11, 0)})
	settles(t, s, 2, 2)
	s = opens(t, d)
	stands(t, s, api.PageStat{Pages: 12, Dirty: 4, Redone: 2, Oldest: 4, Log: logOf(16, 4, 11, 11, 0)})
	commits(t, s, run(11, 1, 3), 0, false, 11)
	stands(t, s, api.PageStat{Pages: 12, Commits: 1, Dirty: 5, Redone: 2, Oldest: 4, Log: logOf(16, 4, 13, 11, 0)})
	settles(t, s, 12, 5)
	stands(t, s, api.PageStat{Pages: 12, Commits: 1, Redone: 2, Log: logOf(16, 13, 13, 13, 0)})
	stands(t, opens(t, d), api.PageStat{Pages: 12, Log: logOf(16, 13, 13, 13, 0)})
}
