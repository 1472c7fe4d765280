package slots

import "trellis/api"

// content: a page's.
type content [api.PageBytes]byte

// bitsBytes: the used bits of a kind's page, ahead of its slots.
const bitsBytes = 2

// magic: what tells the root page of a store from other pages.
const magic = "trellis3"

// The root page: behind the magic the four sizes, then the numbers.
const (
	sizesAt   = 8
	sizeBytes = 2
	rootsAt   = 16
	rootBytes = 8
)

// lay: the number as bytes, highest first, as many as there is room for.
func lay(b []byte, v int64) {
	for i := range b {
		b[len(b)-1-i] = byte(v >> (8 * i))
	}
}

// number: what lay laid.
func number(b []byte) int64 {
	v := int64(0)
	for _, x := range b {
		v = v<<8 | int64(x)
	}
	return v
}

// used: is the slot used?
func (c *content) used(slot int) bool {
	return number(c[:bitsBytes])>>slot&1 == 1
}

// root: the bytes of the root page's number i.
func (c *content) root(i int) []byte {
	return c[rootsAt+rootBytes*i:][:rootBytes]
}

// size: the bytes of the root page's size of that kind.
func (c *content) size(kind int) []byte {
	return c[sizesAt+sizeBytes*(kind-1):][:sizeBytes]
}

// rootPage: that of an empty store.
func rootPage(l layout) content {
	var c content
	copy(c[:], magic)
	for kind := 1; kind <= kinds; kind++ {
		lay(c.size(kind), int64(l.pagesOf(kind)))
	}
	return c
}

// layoutOn: the layout that the root page tells of; false, if the page isn't one.
func layoutOn(c content) (layout, bool) {
	size := func(kind int) int { return int(number(c.size(kind))) }
	l := layout{sizes: api.Sizes{Node: size(api.SNode), Edge: size(api.SEdge), Prop: size(api.SProp), Tree: size(api.STree)}}
	return l, string(c[:len(magic)]) == magic && l.fits()
}
