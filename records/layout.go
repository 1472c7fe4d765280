package records

import (
	"trellis/api"
	"trellis/value"
)

// The ids of the records; 0: none.
type (
	nodeId int64
	edgeId int64
	propId int64
)

// ident: an id that knows the kind of its record, and the error where there is none.
type ident interface {
	~int64
	kind() int
	missing() api.Errno
}

func (nodeId) kind() int { return api.SNode }
func (edgeId) kind() int { return api.SEdge }
func (propId) kind() int { return api.SProp }

func (nodeId) missing() api.Errno { return api.ErrNoNode }
func (edgeId) missing() api.Errno { return api.ErrNoEdge }
func (propId) missing() api.Errno { return unreadable }

// unreadable: the error of a record that Apply has not written.
const unreadable = api.ErrBytes

// side: one of an edge's two, each with a node and a chain of that node.
type side int

const (
	leaves side = iota // From, whose out chain it is in
	comes              // To, whose in chain it is in
	sides
)

// link: of a record in a chain: its neighbours there.
type link[I ident] struct {
	ahead, behind I
}

// node: a node's record.
type node struct {
	label string
	first [sides]edgeId // of its two chains of edges
	props propId        // the first of its chain
}

// edge: an edge's record.
type edge struct {
	label string
	ends  [sides]nodeId
	links [sides]link[edgeId]
	props propId
}

// prop: a property's record.
type prop struct {
	api.Prop
	link link[propId]
}

// record: what can be laid as bytes.
type record interface {
	bytes() []byte
}

// The lengths of a record's parts, and where those of a property's value begin.
const (
	nameBytes  = 6
	idBytes    = 4
	smallBytes = 1
	wholeBytes = 8
	kindAt     = 14
	lengthAt   = 15
	valueAt    = 16
)

// laid: a record of that length: its parts one behind the other, then zeros.
func laid(length int, parts ...[]byte) []byte {
	out := make([]byte, length)
	at := 0
	for _, part := range parts {
		at += copy(out[at:], part)
	}
	return out
}

// big: the number as so many bytes, highest first.
func big(v int64, length int) []byte {
	out := make([]byte, length)
	for i := range out {
		out[length-1-i] = byte(v >> (8 * i))
	}
	return out
}

// number: what big laid.
func number(b []byte) int64 {
	v := int64(0)
	for _, x := range b {
		v = v<<8 | int64(x)
	}
	return v
}

// name: a name's bytes.
func name(s string) []byte { return big(must(value.Pack(s)), nameBytes) }

// nameOf: the name with which a record begins.
func nameOf(b []byte) string {
	s, code := value.Unpack(number(b[:nameBytes]))
	if code != api.OK {
		check(unreadable)
	}
	return s
}

// four: an id's bytes.
func four[I ident](id I) []byte { return big(int64(id), idBytes) }

// idAt: the number i of the ids that stand behind a record's name.
func idAt[I ident](b []byte, i int) I {
	return I(number(b[nameBytes+idBytes*i:][:idBytes]))
}

func (n node) bytes() []byte {
	return laid(api.SizeNode, name(n.label), four(n.first[leaves]), four(n.first[comes]), four(n.props))
}

func nodeOf(b []byte) node {
	return node{label: nameOf(b), first: [...]edgeId{idAt[edgeId](b, 0), idAt[edgeId](b, 1)}, props: idAt[propId](b, 2)}
}

func (e edge) bytes() []byte {
	out, in := e.links[leaves], e.links[comes]
	return laid(api.SizeEdge, name(e.label), four(e.ends[leaves]), four(e.ends[comes]),
		four(out.ahead), four(out.behind), four(in.ahead), four(in.behind), four(e.props))
}

func edgeOf(b []byte) edge {
	id := func(i int) edgeId { return idAt[edgeId](b, i) }
	return edge{
		label: nameOf(b),
		ends:  [...]nodeId{idAt[nodeId](b, 0), idAt[nodeId](b, 1)},
		links: [...]link[edgeId]{{ahead: id(2), behind: id(3)}, {ahead: id(4), behind: id(5)}},
		props: idAt[propId](b, 6),
	}
}

func (p prop) bytes() []byte {
	ahead := laid(valueAt, name(p.Key), four(p.link.ahead), four(p.link.behind), big(int64(p.Val.Kind), smallBytes), big(int64(len(p.Val.S)), smallBytes))
	if p.Val.Kind == api.KStr {
		return laid(api.SizeProp, ahead, []byte(p.Val.S))
	}
	return laid(api.SizeProp, ahead, big(p.Val.A, wholeBytes), big(p.Val.B, wholeBytes))
}

func propOf(b []byte) prop {
	p := prop{Prop: api.Prop{Key: nameOf(b), Val: valOf(b)}}
	p.link = link[propId]{ahead: idAt[propId](b, 0), behind: idAt[propId](b, 1)}
	return p
}

// valOf: the value that stands in a property's record.
func valOf(b []byte) api.Val {
	v := api.Val{Kind: int(b[kindAt])}
	if v.Kind == api.KStr {
		v.S = string(b[valueAt:][:min(int(b[lengthAt]), api.MaxStr)])
	} else {
		v.A, v.B = number(b[valueAt:][:wholeBytes]), number(b[valueAt+wholeBytes:][:wholeBytes])
	}
	if !value.Storable(v) {
		check(unreadable)
	}
	return v
}
