package slots_test

import (
	"bytes"
	"encoding/binary"
	"fmt"
	"maps"
	"math/rand/v2"
	"testing"

	"trellis/api"
	"trellis/disk"
	"trellis/pages"
	"trellis/slots"
)

// book: a second reckoning of a store, with a disk and a page store of its own: it keeps records by their ids, lays all pages anew at each commit, and holds them against those before.
type book struct {
	d     *disk.Disk
	p     *pages.Store
	z     api.Sizes
	now   holding
	batch *holding // nil: none is open
	dead  bool
}

func (h holding) copied() *holding {
	out := holding{roots: h.roots}
	for kind := range h.records {
		out.records[kind] = maps.Clone(h.records[kind])
	}
	return &out
}

// laid: all pages of a store that holds that.
func (h holding) laid(z api.Sizes) [][]byte {
	out := [][]byte{rootOf(z, h.roots)}
	for kind := 1; kind <= 4; kind++ {
		for i := range countsOf(z)[kind] {
			records := map[int][]byte{}
			for slot := range perOf[kind] {
				if rec, ok := h.records[kind][int64(i*perOf[kind]+slot+1)]; ok {
					records[slot] = []byte(rec)
				}
			}
			out = append(out, pageOf(kind, records))
		}
	}
	return out
}

// read: what the pages hold.
func (b *book) read() (out holding) {
	page, _ := b.p.Read(0)
	for i := range out.roots {
		out.roots[i] = int64(binary.BigEndian.Uint64(page[16+8*i:]))
	}
	at := 1
	for kind := 1; kind <= 4; kind++ {
		out.records[kind] = map[int64]string{}
		for id := range capacityOf(b.z, kind) {
			slot := int(id) % perOf[kind]
			page, _ := b.p.Read(at + int(id)/perOf[kind])
			if page[1]>>slot&1 == 1 {
				out.records[kind][id+1] = string(page[2+slot*lengthOf[kind]:][:lengthOf[kind]])
			}
		}
		at += countsOf(b.z)[kind]
	}
	return out
}

func (b *book) open() api.Errno {
	p, code := pages.Open(b.d)
	if code == api.OK {
		*b = book{d: b.d, p: p, z: b.z}
		b.now = b.read()
	}
	return code
}

// call: a call of the page store.
func (b *book) call(code api.Errno) api.Errno {
	b.dead = b.dead || code == api.ErrPower
	return code
}

func (b *book) greatest() int { return min(256, pagesOf(b.z)) }

func (b *book) commit(held, sync bool) (int64, api.Errno) {
	will := b.batch
	if will == nil {
		return 0, api.ErrClosed
	}
	b.batch = nil
	if b.dead {
		return 0, api.ErrPower
	}
	var batch []api.PageImage
	was, now := b.now.laid(b.z), will.laid(b.z)
	for page := range was {
		if !bytes.Equal(was[page], now[page]) {
			batch = append(batch, api.PageImage{Page: page, Data: now[page]})
		}
	}
	if len(batch) == 0 || len(batch) > 256 {
		if held {
			if code := b.call(b.p.Release(b.greatest())); code != api.OK {
				return 0, code
			}
		}
		if len(batch) > 0 {
			return 0, api.ErrBatch
		}
		return 0, api.OK
	}
	room := 0
	if held {
		room = b.greatest()
	}
	lsn, code := b.p.Commit(batch, room, sync)
	if b.call(code) == api.OK {
		b.now = *will
	}
	return lsn, code
}

// fault: what Get (n below 0), Free (n 0) and Put (n bytes) are answered ahead of what is there.
func (b *book) fault(kind int, id int64, n int, ofBatch bool) api.Errno {
	switch {
	case kind < 1 || kind > 4:
		return api.ErrSlotKind
	case id < 1 || id > capacityOf(b.z, kind):
		return api.ErrSlotId
	case n > 0 && n != lengthOf[kind]:
		return api.ErrSlotSize
	case ofBatch && b.batch == nil:
		return api.ErrClosed
	case b.dead:
		return api.ErrPower
	}
	return api.OK
}

// change: Free (n 0) or Put (n bytes).
func (b *book) change(kind int, id int64, rec []byte) api.Errno {
	if code := b.fault(kind, id, len(rec), true); code != api.OK {
		return code
	}
	if _, ok := b.batch.records[kind][id]; !ok {
		return api.ErrSlotId
	}
	if len(rec) == 0 {
		delete(b.batch.records[kind], id)
	} else {
		b.batch.records[kind][id] = string(rec)
	}
	return api.OK
}

func (b *book) alloc(kind int) (int64, api.Errno) {
	if code := b.fault(kind, 1, -1, true); code != api.OK {
		return 0, code
	}
	for id := range capacityOf(b.z, kind) {
		if _, ok := b.batch.records[kind][id+1]; !ok {
			b.batch.records[kind][id+1] = string(make([]byte, lengthOf[kind]))
			return id + 1, api.OK
		}
	}
	return 0, api.ErrSlotFull
}

func (b *book) setRoot(i int, v int64) api.Errno {
	switch {
	case i < 0 || i > 7:
		return api.ErrArg
	case b.batch == nil:
		return api.ErrClosed
	case b.dead:
		return api.ErrPower
	}
	b.batch.roots[i] = v
	return api.OK
}

// pair: a store, a batch of it (the last one that there was), and their book.
type pair struct {
	t *testing.T
	d *disk.Disk
	s *slots.Store
	u *slots.Batch
	b *book
}

// agree: nothing tells the two apart.
func (p *pair) agree(what string) {
	p.t.Helper()
	if p.b.dead {
		if _, code := p.s.Root(0); code != api.ErrPower {
			p.t.Fatalf("%s: Root(0) = %d of a dead store", what, code)
		}
	} else {
		if got, want := fmt.Sprint(held(p.t, p.s)), fmt.Sprint(p.b.now); got != want {
			p.t.Fatalf("%s: the store has %s, want %s", what, got, want)
		}
		if p.b.batch != nil {
			if got, want := fmt.Sprint(held(p.t, p.u)), fmt.Sprint(*p.b.batch); got != want {
				p.t.Fatalf("%s: the batch has %s, want %s", what, got, want)
			}
		}
	}
	if got, want := p.s.Stat(), p.b.p.Stat(); got != want {
		p.t.Fatalf("%s: Stat() = %+v, want %+v", what, got, want)
	}
	alike(p.t, what, p.d, p.b.d)
	if p.t.Failed() {
		p.t.FailNow()
	}
}

func (p *pair) open(r *rand.Rand) {
	for {
		s, code := slots.Open(p.d)
		wants(p.t, "Open", code, p.b.open())
		if code == api.OK {
			p.s, p.u = s, nil
			p.agree("Open")
			return
		}
		p.crash(r)
	}
}

func (p *pair) crash(r *rand.Rand) {
	keep := make([]bool, p.d.Stat().Pending)
	for i := range keep {
		keep[i] = r.IntN(3) > 0
	}
	p.d.Crash(keep)
	p.b.d.Crash(keep)
	if r.IntN(4) == 0 {
		p.cut(r.IntN(20))
	}
}

func (p *pair) cut(power int) {
	p.d.Cut(power)
	p.b.d.Cut(power)
}

// step: one call of both.
func (p *pair) step(r *rand.Rand) {
	switch r.IntN(16) {
	case 0:
		wants(p.t, "Sync", p.s.Sync(), p.b.call(p.b.p.Sync()))
	case 1:
		most := r.IntN(pagesOf(p.b.z)+3) - 1
		n, code := p.s.Checkpoint(most)
		m, want := p.b.p.Checkpoint(most)
		if p.b.call(want); n != m || code != want {
			p.t.Fatalf("Checkpoint(%d) = %d, %d, want %d, %d", most, n, code, m, want)
		}
	case 2:
		wants(p.t, "Reserve", p.s.Reserve(), p.b.call(p.b.p.Reserve(p.b.greatest())))
	case 3:
		wants(p.t, "Release", p.s.Release(), p.b.call(p.b.p.Release(p.b.greatest())))
	case 4:
		if r.IntN(4) == 0 {
			p.cut(r.IntN(30))
		}
	case 5, 6:
		p.begin()
	default:
		if p.u != nil {
			p.use(r)
		}
	}
	p.agree("a call")
}

func (p *pair) begin() {
	u, code := p.s.Begin()
	want := api.OK
	if p.b.batch != nil {
		want = api.ErrOpen
	} else if p.b.dead {
		want = api.ErrPower
	}
	wants(p.t, "Begin", code, want)
	if code == api.OK {
		p.u, p.b.batch = u, p.b.now.copied()
	}
}

// use: one call of the batch, ended or not.
func (p *pair) use(r *rand.Rand) {
	kind := r.IntN(6)
	id := r.Int64N(12)
	switch r.IntN(10) {
	case 0:
		held, sync := r.IntN(2) == 0, r.IntN(2) == 0
		lsn, code := p.u.Commit(held, sync)
		if at, want := p.b.commit(held, sync); lsn != at || code != want {
			p.t.Fatalf("Commit(%v, %v) = %d, %d, want %d, %d", held, sync, lsn, code, at, want)
		}
	case 1:
		if r.IntN(3) > 0 {
			return
		}
		want := api.OK
		if p.b.batch == nil {
			want = api.ErrClosed
		}
		p.b.batch = nil
		wants(p.t, "Drop", p.u.Drop(), want)
	case 2:
		i, v := r.IntN(11)-1, r.Int64N(3)-1
		wants(p.t, "SetRoot", p.u.SetRoot(i, v), p.b.setRoot(i, v))
	case 3, 4:
		wants(p.t, "Free", p.u.Free(kind, id), p.b.change(kind, id, nil))
	case 5, 6:
		n := 1 + r.IntN(118)
		if kind < 5 && r.IntN(8) > 0 {
			n = max(1, lengthOf[kind])
		}
		rec := all(byte(r.IntN(3)), n)
		wants(p.t, "Put", p.u.Put(kind, id, rec), p.b.change(kind, id, rec))
	default:
		got, code := p.u.Alloc(kind)
		if id, want := p.b.alloc(kind); got != id || code != want {
			p.t.Fatalf("Alloc(%d) = %d, %d, want %d, %d", kind, got, code, id, want)
		}
	}
}

// TestP503To512AgainstABook: scripts of calls in all orders, held against the second reckoning behind each call, over crashes and openings.
func TestP503To512AgainstABook(t *testing.T) {
	r := rand.New(rand.NewPCG(5, 5))
	for range 60 {
		z := api.Sizes{Node: 1 + r.IntN(2), Edge: 1 + r.IntN(3), Prop: 1 + r.IntN(3), Tree: 1 + r.IntN(4)}
		log := 4 + r.IntN(30)
		begin := formatted(t, log, z).Image()
		p := &pair{t: t, d: loaded(t, begin), b: &book{d: loaded(t, begin), z: z}}
		for range 6 {
			p.open(r)
			for range r.IntN(80) {
				p.step(r)
			}
			p.crash(r)
		}
	}
}
