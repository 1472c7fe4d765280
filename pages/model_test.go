package pages_test

import (
	"bytes"
	"math/rand/v2"
	"slices"
	"testing"

	"trellis/api"
	"trellis/disk"
	"trellis/pages"
	"trellis/wal"
)

// entry: a commit, or a record that was played again.
type entry struct {
	lsn   int64
	batch []api.PageImage
}

// book: a second reckoning of a store, with a disk and a log of its own: it keeps all commits there were since the opening, and counts anew each time.
type book struct {
	d       *disk.Disk
	sectors int // of the log
	count   int
	l       *wal.Log
	entries []entry
	clean   []int // of each page: how many entries there were when it was written home last
	played  int
	dead    bool
	told    api.PageStat // of a dead one
}

// open: as the chapter says, of a disk with a right label and a log of commits alone.
func (b *book) open() api.Errno {
	l, code := wal.Open(b.d, 1, b.sectors)
	if code != api.OK {
		return code
	}
	*b = book{d: b.d, sectors: b.sectors, count: b.count, l: l, clean: make([]int, b.count)}
	for _, r := range l.Records() {
		var list []api.PageImage
		for i := range len(r.Data) / 122 {
			at := r.Data[2+122*i:]
			list = append(list, api.PageImage{Page: int(at[0])<<8 + int(at[1]), Data: at[2:122]})
		}
		b.entries = append(b.entries, entry{r.Lsn, list})
	}
	b.played = len(b.entries)
	return api.OK
}

// first: the lsn of the first entry that has the page since it was clean; 0, if it is.
func (b *book) first(page int) int64 {
	for _, e := range b.entries[b.clean[page]:] {
		for _, p := range e.batch {
			if p.Page == page {
				return e.lsn
			}
		}
	}
	return 0
}

// order: the dirty pages: of each first, from the log's head on, the pages rising.
func (b *book) order() []first {
	var out []first
	for _, e := range b.entries {
		for page := range b.count {
			if b.first(page) == e.lsn {
				out = append(out, first{page, e.lsn})
			}
		}
	}
	return out
}

func (b *book) content(page int) []byte {
	for _, e := range slices.Backward(b.entries) {
		for _, p := range e.batch {
			if p.Page == page {
				return p.Data
			}
		}
	}
	s, _ := b.d.Read(1 + b.sectors + page)
	return s[8:]
}

func (b *book) stat() api.PageStat {
	if b.dead {
		return b.told
	}
	out := api.PageStat{Pages: b.count, Commits: len(b.entries) - b.played, Redone: b.played, Log: b.l.Stat()}
	if order := b.order(); len(order) > 0 {
		out.Dirty, out.Oldest = len(order), order[0].lsn
	}
	return out
}

// call: a call of a store that isn't dead; it dies of ErrPower, and tells what it told before.
func (b *book) call(do func() api.Errno) api.Errno {
	if b.dead {
		return api.ErrPower
	}
	told := b.stat()
	code := do()
	if code == api.ErrPower {
		b.dead, b.told = true, told
	}
	return code
}

// fault: an argument's, of a commit.
func (b *book) fault(batch []api.PageImage, held int) api.Errno {
	if held < 0 || held > 256 {
		return api.ErrArg
	}
	if len(batch) < 1 || len(batch) > 256 || slices.ContainsFunc(batch, func(p api.PageImage) bool { return len(p.Data) != whole }) {
		return api.ErrBatch
	}
	for i, p := range batch {
		if p.Page < 0 || p.Page >= b.count || slices.ContainsFunc(batch[:i], func(q api.PageImage) bool { return q.Page == p.Page }) {
			return api.ErrPage
		}
	}
	if held != 0 && len(batch) > held {
		return api.ErrArg
	}
	return api.OK
}

func (b *book) commit(batch []api.PageImage, held int, sync bool) (int64, api.Errno) {
	if code := b.fault(batch, held); code != api.OK {
		return 0, code
	}
	lsn := int64(0)
	code := b.call(func() api.Errno {
		if held != 0 && b.l.Stat().Reserved < roomOf(held) {
			return api.ErrReserve
		}
		at, code := b.l.Append(1, payloadOf(batch...), held != 0)
		if code == api.OK && held != 0 {
			code = b.l.Release(roomOf(held) - roomOf(len(batch)))
		}
		if code == api.OK && sync {
			code = b.l.Flush()
		}
		if code == api.OK {
			lsn = at
			b.entries = append(b.entries, entry{at, batch})
		}
		return code
	})
	return lsn, code
}

func (b *book) checkpoint(most int) (int, api.Errno) {
	if most < 0 {
		return 0, api.ErrArg
	}
	n := 0
	code := b.call(func() api.Errno {
		order := b.order()
		order = order[:min(most, len(order))]
		if len(order) == 0 {
			return api.OK
		}
		code := b.l.Flush()
		for _, f := range order {
			if code == api.OK {
				code = b.d.Write(1+b.sectors+f.page, homeOf(f.page, b.content(f.page)))
			}
		}
		if code == api.OK {
			code = b.d.Flush()
		}
		if code != api.OK {
			return code
		}
		for _, f := range order {
			b.clean[f.page] = len(b.entries)
		}
		wanted := b.stat().Oldest
		if wanted == 0 {
			wanted = b.l.Stat().Next
		}
		code = b.l.Cut(wanted)
		if code == api.OK {
			n = len(order)
		}
		return code
	})
	return n, code
}

func (b *book) setAside(n int, do func(*wal.Log, int) api.Errno) api.Errno {
	if n < 1 || n > 256 {
		return api.ErrArg
	}
	return b.call(func() api.Errno { return do(b.l, roomOf(n)) })
}

// pair: a store and its book.
type pair struct {
	t *testing.T
	d *disk.Disk
	s *pages.Store
	b *book
}

// agree: nothing tells the two apart.
func (p *pair) agree(what string) {
	p.t.Helper()
	if got, want := p.s.Stat(), p.b.stat(); got != want {
		p.t.Fatalf("%s: Stat() = %+v, want %+v", what, got, want)
	}
	for page := range p.b.count {
		got, code := p.s.Read(page)
		if p.b.dead {
			if len(got) != 0 || code != api.ErrPower {
				p.t.Fatalf("%s: Read(%d) = %v, %d, of a dead store", what, page, got, code)
			}
		} else if code != api.OK || !bytes.Equal(got, p.b.content(page)) {
			p.t.Fatalf("%s: Read(%d) = % x, %d, want % x", what, page, got, code, p.b.content(page))
		}
	}
	if got, want := p.d.Stat(), p.b.d.Stat(); got != want {
		p.t.Fatalf("%s: the disk has done %+v, want %+v", what, got, want)
	}
	if !bytes.Equal(p.d.Image(), p.b.d.Image()) {
		p.t.Fatalf("%s: the disk's bytes differ", what)
	}
	pends(p.t, p.d, p.b.d.Pending()...)
}

// open: of both, again and again till there is power.
func (p *pair) open(r *rand.Rand) bool {
	for {
		s, code := pages.Open(p.d)
		wants(p.t, "Open", code, p.b.open())
		if code == api.OK {
			p.s = s
			p.agree("Open")
			return true
		}
		if code != api.ErrPower {
			return false
		}
		p.crash(r)
	}
}

func (p *pair) crash(r *rand.Rand) {
	keep := make([]bool, p.d.Stat().Pending)
	for i := range keep {
		keep[i] = r.IntN(3) > 0
	}
	p.d.Crash(keep)
	p.b.d.Crash(keep)
	if r.IntN(4) == 0 {
		p.cut(r.IntN(20))
	}
}

func (p *pair) cut(power int) {
	p.d.Cut(power)
	p.b.d.Cut(power)
}

// some: a batch that may have a fault.
func (p *pair) some(r *rand.Rand) []api.PageImage {
	var out []api.PageImage
	for _, page := range r.Perm(p.b.count)[:r.IntN(min(6, p.b.count)+1)] {
		out = append(out, api.PageImage{Page: page, Data: filled(r.IntN(1<<20), whole)})
	}
	if len(out) > 0 && r.IntN(12) == 0 {
		switch at := r.IntN(len(out)); r.IntN(3) {
		case 0:
			out[at].Data = out[at].Data[:r.IntN(whole)]
		case 1:
			out[at].Page = r.IntN(2*p.b.count) - p.b.count/2
		default:
			out[at].Page = out[0].Page
		}
	}
	return out
}

// step: one call of both.
func (p *pair) step(r *rand.Rand) {
	switch r.IntN(10) {
	case 0:
		wants(p.t, "Sync", p.s.Sync(), p.b.call(p.b.l.Flush))
	case 1, 2:
		most := r.IntN(p.b.count+3) - 1
		n, code := p.s.Checkpoint(most)
		if m, want := p.b.checkpoint(most); n != m || code != want {
			p.t.Fatalf("Checkpoint(%d) = %d, %d, want %d, %d", most, n, code, m, want)
		}
	case 3:
		n := r.IntN(5)
		wants(p.t, "Reserve", p.s.Reserve(n), p.b.setAside(n, (*wal.Log).Reserve))
	case 4:
		n := r.IntN(4)
		wants(p.t, "Release", p.s.Release(n), p.b.setAside(n, (*wal.Log).Release))
	case 5:
		if r.IntN(3) == 0 {
			p.cut(r.IntN(30))
		}
	default:
		batch, held, sync := p.some(r), max(-1, r.IntN(12)-6), r.IntN(2) == 0
		lsn, code := p.s.Commit(batch, held, sync)
		if at, want := p.b.commit(batch, held, sync); lsn != at || code != want {
			p.t.Fatalf("Commit(%d pages, %d, %v) = %d, %d, want %d, %d", len(batch), held, sync, lsn, code, at, want)
		}
	}
	p.agree("a call")
}

// ends: the numbers that a log may have come to: its beginning, and near each of its ends.
var ends = []struct{ round, lsn, turn int64 }{
	{1, 1, 2}, {1, 1, 2}, {1, 1, 2}, {maxRound - 9, 7, 4}, {5, maxLsn - 20, 3}, {5, maxLsn - 3, 4}, {9, 1 << 33, maxTurn - 12}, {maxRound - 3, maxLsn - 19, maxTurn - 9},
}

// TestP402To409AgainstABook: scripts of calls in all orders, held against the second reckoning behind each call, over crashes and openings.
func TestP402To409AgainstABook(t *testing.T) {
	r := rand.New(rand.NewPCG(4, 4))
	for run := range 240 {
		log, count, at := 4+r.IntN(20), 1+r.IntN(8), ends[run%len(ends)]
		begin := replaced(formatted(t, 1+log+count+r.IntN(2), log, count), 1+int(at.turn%2), headOf(at.round, at.lsn, at.turn, 1, log))
		p := &pair{t: t, d: loaded(t, begin), b: &book{d: loaded(t, begin), sectors: log, count: count}}
		for range 8 {
			if !p.open(r) {
				break
			}
			for range r.IntN(40) {
				p.step(r)
			}
			p.crash(r)
		}
	}
}
