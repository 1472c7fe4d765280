package slots

import "trellis/api"

// kinds: how many there are; they have the numbers from 1 on.
const kinds = 4

// rootAt: the root page; the kinds' pages follow.
const rootAt = 0

// lengths: of the kinds' records.
var lengths = [...]int{api.SNode: api.SizeNode, api.SEdge: api.SizeEdge, api.SProp: api.SizeProp, api.STree: api.SizeTree}

// look: what gives a page's content, in the eyes of a store or of a batch.
type look func(page int) (content, api.Errno)

// layout: what a store and its batches share: which pages there are, and how records are read out of them.
type layout struct {
	sizes api.Sizes
}

// fits: can a store have these sizes? Each is looked at ahead of their sum, which may be beyond the range.
func (l layout) fits() bool {
	for kind := 1; kind <= kinds; kind++ {
		if n := l.pagesOf(kind); n < 1 || n > api.MaxPages {
			return false
		}
	}
	return l.count() <= api.MaxPages
}

// pagesOf: how many pages the kind has.
func (l layout) pagesOf(kind int) int {
	return [...]int{api.SNode: l.sizes.Node, api.SEdge: l.sizes.Edge, api.SProp: l.sizes.Prop, api.STree: l.sizes.Tree}[kind]
}

// firstOf: the kind's first page.
func (l layout) firstOf(kind int) int {
	page := rootAt + 1
	for ahead := 1; ahead < kind; ahead++ {
		page += l.pagesOf(ahead)
	}
	return page
}

// count: how many pages there are.
func (l layout) count() int {
	return l.firstOf(kinds + 1)
}

// greatest: the pages of the greatest batch.
func (l layout) greatest() int {
	return min(l.count(), api.MaxBatch)
}

// zone: the pages of one kind.
type zone struct {
	first, pages int
	per, length  int // of its records
}

// zoneOf: the kind's pages; ErrSlotKind, if there is no such kind.
func (l layout) zoneOf(kind int) (zone, api.Errno) {
	if Per(kind) == 0 {
		return zone{}, api.ErrSlotKind
	}
	return zone{first: l.firstOf(kind), pages: l.pagesOf(kind), per: Per(kind), length: lengths[kind]}, api.OK
}

// has: can the id name a slot of the zone?
func (z zone) has(id int64) bool {
	return id >= 1 && id <= int64(z.per*z.pages)
}

// idAt: the id of a slot of the zone's page number i.
func (z zone) idAt(i, slot int) int64 {
	return int64(i*z.per + slot + 1)
}

// placeOf: the slot that the id names.
func (z zone) placeOf(id int64) place {
	at := int(id - 1)
	return place{page: z.first + at/z.per, slot: at % z.per, length: z.length}
}

// place: a slot, which an id names.
type place struct {
	page, slot, length int
}

// record: the slot's bytes in its page.
func (p place) record(c *content) []byte {
	return c[bitsBytes+p.length*p.slot:][:p.length]
}

// turn: the slot is used from now on, or no more; its bytes are zero either way.
func (p place) turn(c *content) {
	bits := c[:bitsBytes]
	lay(bits, number(bits)^1<<p.slot)
	clear(p.record(c))
}

// placeOf: the slot that the id of that kind names, whether a record is there or not.
func (l layout) placeOf(kind int, id int64) (place, api.Errno) {
	z, code := l.zoneOf(kind)
	if code != api.OK {
		return place{}, code
	}
	if !z.has(id) {
		return place{}, api.ErrSlotId
	}
	return z.placeOf(id), api.OK
}

// get: a record's bytes.
func (l layout) get(kind int, id int64, at look) ([]byte, api.Errno) {
	p, code := l.placeOf(kind, id)
	if code != api.OK {
		return nil, code
	}
	c, code := at(p.page)
	if code != api.OK {
		return nil, code
	}
	if !c.used(p.slot) {
		return nil, api.ErrSlotId
	}
	return append([]byte(nil), p.record(&c)...), api.OK
}

// used: the ids of the kind's records, rising.
func (l layout) used(kind int, at look) ([]int64, api.Errno) {
	z, code := l.zoneOf(kind)
	if code != api.OK {
		return nil, code
	}
	var out []int64
	for i := range z.pages {
		c, code := at(z.first + i)
		if code != api.OK {
			return nil, code
		}
		for slot := range z.per {
			if c.used(slot) {
				out = append(out, z.idAt(i, slot))
			}
		}
	}
	return out, api.OK
}

// root: one of the numbers of the root page.
func (l layout) root(i int, at look) (int64, api.Errno) {
	if i < 0 || i >= api.Roots {
		return 0, api.ErrArg
	}
	c, code := at(rootAt)
	if code != api.OK {
		return 0, code
	}
	return number(c.root(i)), api.OK
}
