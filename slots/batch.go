package slots

import (
	"slices"

	"trellis/api"
)

// Batch: changes that are seen by the batch alone till it is committed.
type Batch struct {
	layout
	store *Store
	own   drafts
}

// drafts: the pages that a batch has touched, as it will leave them.
type drafts map[int]content

// numbers: of the pages, rising.
func (d drafts) numbers() []int {
	out := make([]int, 0, len(d))
	for page := range d {
		out = append(out, page)
	}
	slices.Sort(out)
	return out
}

// images: the pages, rising by their numbers.
func (d drafts) images() []api.PageImage {
	var out []api.PageImage
	for _, page := range d.numbers() {
		c := d[page]
		out = append(out, api.PageImage{Page: page, Data: c[:]})
	}
	return out
}

// ended: is it no more the one that its store has open?
func (b *Batch) ended() bool {
	return b.store.open != b
}

// end: what it has touched is given up.
func (b *Batch) end() {
	b.store.open = nil
	b.own = nil
}

// page: a page's content, in the batch's eyes. What has ended, and a dead store, are told here for all calls: each of them looks at a page behind its arguments.
func (b *Batch) page(page int) (content, api.Errno) {
	if b.ended() {
		return content{}, api.ErrClosed
	}
	if b.store.dead {
		return content{}, api.ErrPower
	}
	if c, ok := b.own[page]; ok {
		return c, api.OK
	}
	return b.store.page(page)
}

// change: changes a page, in the batch's eyes alone, unless the change is refused.
func (b *Batch) change(page int, do func(*content) api.Errno) api.Errno {
	c, code := b.page(page)
	if code != api.OK {
		return code
	}
	if code := do(&c); code != api.OK {
		return code
	}
	b.own[page] = c
	return api.OK
}

// Sizes: the store's sizes.
func (b *Batch) Sizes() api.Sizes {
	if b == nil {
		return api.Sizes{}
	}
	return b.sizes
}

// Alloc: the least free id of that kind; its record is all zero.
func (b *Batch) Alloc(kind int) (int64, api.Errno) {
	if b == nil {
		return 0, api.ErrArg
	}
	z, code := b.zoneOf(kind)
	if code != api.OK {
		return 0, code
	}
	id, c, code := b.leastFree(z)
	if code != api.OK {
		return 0, code
	}
	p := z.placeOf(id)
	p.turn(&c)
	b.own[p.page] = c
	return id, api.OK
}

// leastFree: the least id of the zone under which no record is, and the content of its page; ErrSlotFull, if there is none.
func (b *Batch) leastFree(z zone) (int64, content, api.Errno) {
	id, found := int64(0), content{}
search:
	for i := range z.pages {
		c, code := b.page(z.first + i)
		if code != api.OK {
			return 0, content{}, code
		}
		for slot := range z.per {
			if !c.used(slot) {
				id, found = z.idAt(i, slot), c
				break search
			}
		}
	}
	if id == 0 {
		return 0, content{}, api.ErrSlotFull
	}
	return id, found, api.OK
}

// Free: the record is no more.
func (b *Batch) Free(kind int, id int64) api.Errno {
	if b == nil {
		return api.ErrArg
	}
	p, code := b.placeOf(kind, id)
	if code != api.OK {
		return code
	}
	return b.change(p.page, func(c *content) api.Errno {
		if !c.used(p.slot) {
			return api.ErrSlotId
		}
		p.turn(c)
		return api.OK
	})
}

// Get: a record's bytes, as the batch has them.
func (b *Batch) Get(kind int, id int64) ([]byte, api.Errno) {
	if b == nil {
		return nil, api.ErrArg
	}
	return b.get(kind, id, b.page)
}

// Put: a record's new bytes.
func (b *Batch) Put(kind int, id int64, rec []byte) api.Errno {
	if b == nil {
		return api.ErrArg
	}
	p, code := b.placeOf(kind, id)
	if code != api.OK {
		return code
	}
	if len(rec) != p.length {
		return api.ErrSlotSize
	}
	return b.change(p.page, func(c *content) api.Errno {
		if !c.used(p.slot) {
			return api.ErrSlotId
		}
		copy(p.record(c), rec)
		return api.OK
	})
}

// Used: the ids of that kind's records, rising, as the batch has them.
func (b *Batch) Used(kind int) ([]int64, api.Errno) {
	if b == nil {
		return nil, api.ErrArg
	}
	return b.used(kind, b.page)
}

// Root: one of the numbers of the root page, as the batch has it.
func (b *Batch) Root(i int) (int64, api.Errno) {
	if b == nil {
		return 0, api.ErrArg
	}
	return b.root(i, b.page)
}

// SetRoot: its new value.
func (b *Batch) SetRoot(i int, v int64) api.Errno {
	if b == nil || i < 0 || i >= api.Roots {
		return api.ErrArg
	}
	return b.change(rootAt, func(c *content) api.Errno {
		lay(c.root(i), v)
		return api.OK
	})
}

// Commit: all that the batch changed, at once. held: Reserve was asked for it. It ends the batch.
func (b *Batch) Commit(held, sync bool) (int64, api.Errno) {
	if b == nil {
		return 0, api.ErrArg
	}
	if b.ended() {
		return 0, api.ErrClosed
	}
	defer b.end()
	if code := b.prune(); code != api.OK {
		return 0, code
	}
	s := b.store
	if len(b.own) == 0 {
		return 0, s.giveBack(held)
	}
	if len(b.own) > api.MaxBatch {
		if code := s.giveBack(held); code != api.OK {
			return 0, code
		}
		return 0, api.ErrBatch
	}
	room := 0
	if held {
		room = s.greatest()
	}
	lsn, code := s.below.Commit(b.own.images(), room, sync)
	return lsn, s.passed(code)
}

// prune: gives up the pages that are as the store has them.
func (b *Batch) prune() api.Errno {
	if b.store.dead {
		return api.ErrPower
	}
	for _, page := range b.own.numbers() {
		was, code := b.store.page(page)
		if code != api.OK {
			return code
		}
		if b.own[page] == was {
			delete(b.own, page)
		}
	}
	return api.OK
}

// giveBack: what Reserve set aside, where something is held.
func (s *Store) giveBack(held bool) api.Errno {
	if !held {
		return api.OK
	}
	return s.Release()
}

// Drop: nothing of it. It ends the batch.
func (b *Batch) Drop() api.Errno {
	if b == nil {
		return api.ErrArg
	}
	if b.ended() {
		return api.ErrClosed
	}
	b.end()
	return api.OK
}
