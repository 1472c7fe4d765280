package space_test

import (
	"maps"
	"slices"

	"trellis/api"
	"trellis/value"
)

// item: a node or an edge in a book. sets: what was set of one of the base, nulls too.
type item struct {
	id, from, to int64
	name         string
	props, sets  map[string]api.Val
	gone         bool
}

// leaf: all nodes and edges that there are, or were: those of the base rising, then the space's own as they were made.
type leaf struct{ nodes, edges []item }

// book: a space, reckoned a second time: each change is made on a copy of all there is, and to go back is to take an older copy. Errors are panics, which try catches.
type book struct {
	leaves []leaf // one ahead of each change, and the last
	asked  []api.Asked
	failAt int
	code   api.Errno
}

func itemOf(id int64, name string, from, to int64, props []api.Prop) item {
	x := item{id: id, name: name, from: from, to: to, props: map[string]api.Val{}, sets: map[string]api.Val{}}
	for _, p := range props {
		x.props[p.Key] = p.Val
	}
	return x
}

func bookOf(g api.Graph) *book {
	var l leaf
	for _, n := range g.Nodes {
		l.nodes = append(l.nodes, itemOf(n.Id, n.Label, 0, 0, n.Props))
	}
	for _, e := range g.Edges {
		l.edges = append(l.edges, itemOf(e.Id, e.Type, e.From, e.To, e.Props))
	}
	return &book{leaves: []leaf{l}, failAt: -1}
}

// try: what the book answers, and what it would have asked of the base.
func try[T any](b *book, do func() T) (out T, code api.Errno) {
	b.asked = nil
	defer func() {
		switch x := recover().(type) {
		case nil:
		case api.Errno:
			code = x
		default:
			panic(x)
		}
	}()
	return do(), api.OK
}

func (b *book) ask(as ...api.Asked) {
	for _, a := range as {
		b.asked = append(b.asked, a)
		if len(b.asked)-1 == b.failAt {
			panic(b.code)
		}
	}
}

// need: the error, unless it is so.
func need(so bool, code api.Errno) {
	if !so {
		panic(code)
	}
}

func (b *book) now() leaf { return b.leaves[len(b.leaves)-1] }

// turn: a change of a copy.
func (b *book) turn(change func(l *leaf)) {
	copied := func(of []item) []item {
		out := slices.Clone(of)
		for i := range out {
			out[i].props, out[i].sets = maps.Clone(out[i].props), maps.Clone(out[i].sets)
		}
		return out
	}
	l := leaf{copied(b.now().nodes), copied(b.now().edges)}
	change(&l)
	b.leaves = append(b.leaves, l)
}

func place(of []item, id int64) int {
	return slices.IndexFunc(of, func(x item) bool { return x.id == id })
}

// look: the item of that id; of one that may be the base's these are asked first.
func (b *book) look(of []item, id int64, missing api.Errno, asks ...api.Asked) item {
	at := place(of, id)
	need(at < 0 || !of[at].gone, api.ErrGone)
	if id >= 0 {
		b.ask(asks...)
	}
	need(at >= 0, missing)
	return of[at]
}

func (b *book) lookNode(id int64, asks ...api.Asked) item {
	return b.look(b.now().nodes, id, api.ErrNoNode, asks...)
}

func (b *book) lookEdge(id int64) item {
	return b.look(b.now().edges, id, api.ErrNoEdge, qEdge(id))
}

// which: the ids of those that are not gone and for which it is so.
func which(of []item, is func(x item) bool) (out []int64) {
	for _, x := range of {
		if !x.gone && is(x) {
			out = append(out, x.id)
		}
	}
	return out
}

func (x item) list() (out []api.Prop) {
	for _, key := range slices.Sorted(maps.Keys(x.props)) {
		out = append(out, pr(key, x.props[key]))
	}
	return out
}

func (x item) node() api.Node { return nd(x.id, x.name, x.list()...) }
func (x item) edge() api.Edge { return ed(x.id, x.name, x.from, x.to, x.list()...) }

// Reading.

func (b *book) nodes(label string) []int64 {
	b.ask(qNodes(label))
	need(label == "" || value.Name(label), api.ErrName)
	return which(b.now().nodes, func(x item) bool { return label == "" || x.name == label })
}

func (b *book) find(label, key string, v api.Val) []int64 {
	b.ask(qFind(label, key, v))
	need(value.Name(label) && value.Name(key), api.ErrName)
	need(value.Valid(v), api.ErrVal)
	return which(b.now().nodes, func(x item) bool {
		has, there := x.props[key]
		return x.name == label && there && has == v
	})
}

func (b *book) node(id int64) api.Node { return b.lookNode(id, qNode(id)).node() }
func (b *book) edge(id int64) api.Edge { return b.lookEdge(id).edge() }

func (b *book) out(id int64) []int64 {
	b.lookNode(id, qOut(id))
	return which(b.now().edges, func(x item) bool { return x.from == id })
}

func (b *book) in(id int64) []int64 {
	b.lookNode(id, qIn(id))
	return which(b.now().edges, func(x item) bool { return x.to == id })
}

// Changing.

func goodProps(props []api.Prop) bool {
	ok := len(props) <= 8
	for i, p := range props {
		ok = ok && value.Name(p.Key) && value.Storable(p.Val) && (i == 0 || props[i-1].Key < p.Key)
	}
	return ok
}

// nextId: one below the least, if that is below 0.
func nextId(of []item) int64 {
	least := int64(0)
	for _, x := range of {
		least = min(least, x.id)
	}
	return least - 1
}

func (b *book) addNode(label string, props []api.Prop) int64 {
	need(value.Name(label), api.ErrName)
	need(goodProps(props), api.ErrProps)
	b.ask(qMix(label))
	id := nextId(b.now().nodes)
	b.turn(func(l *leaf) { l.nodes = append(l.nodes, itemOf(id, label, 0, 0, props)) })
	return id
}

func (b *book) addEdge(kind string, from, to int64, props []api.Prop) int64 {
	need(value.Name(kind), api.ErrName)
	need(goodProps(props), api.ErrProps)
	b.lookNode(from, qX(from), qNode(from))
	if to != from {
		b.lookNode(to, qX(to), qNode(to))
	}
	id := nextId(b.now().edges)
	b.turn(func(l *leaf) { l.edges = append(l.edges, itemOf(id, kind, from, to, props)) })
	return id
}

// set: what nodes and edges have in common, behind the askings. of: the list of a leaf that the item is in.
func (b *book) set(x item, key string, v api.Val, of func(l *leaf) []item) {
	after := maps.Clone(x.props)
	if v == null {
		delete(after, key)
	} else {
		after[key] = v
	}
	need(len(after) <= 8, api.ErrProps)
	b.turn(func(l *leaf) {
		at := place(of(l), x.id)
		of(l)[at].props = after
		if x.id > 0 {
			of(l)[at].sets[key] = v
		}
	})
}

func (b *book) setNode(id int64, key string, v api.Val) {
	need(value.Name(key), api.ErrName)
	need(v == null || value.Storable(v), api.ErrProps)
	n := b.lookNode(id, qX(id), qNode(id))
	b.set(n, key, v, func(l *leaf) []item { return l.nodes })
}

func (b *book) setEdge(id int64, key string, v api.Val) {
	need(value.Name(key), api.ErrName)
	need(v == null || value.Storable(v), api.ErrProps)
	e := b.lookEdge(id)
	if id >= 0 {
		b.ask(qX(e.from))
	}
	b.set(e, key, v, func(l *leaf) []item { return l.edges })
}

func (b *book) delEdge(id int64) {
	e := b.lookEdge(id)
	if id >= 0 {
		b.ask(qX(e.from))
		if e.to != e.from {
			b.ask(qX(e.to))
		}
	}
	b.turn(func(l *leaf) { l.edges[place(l.edges, id)].gone = true })
}

func (b *book) delNode(id int64, detach bool) int {
	b.lookNode(id, qX(id), qNode(id))
	if id >= 0 {
		b.ask(qOut(id), qIn(id))
	}
	leave := which(b.now().edges, func(x item) bool { return x.from == id })
	come := which(b.now().edges, func(x item) bool { return x.to == id && x.from != id })
	all := slices.Concat(leave, come)
	need(detach || len(all) == 0, api.ErrHasEdges)
	for _, e := range all {
		if e < 0 {
			continue
		}
		x := b.lookEdge(e)
		if x.from != id {
			b.ask(qX(x.from))
		} else if x.to != id {
			b.ask(qX(x.to))
		}
	}
	b.turn(func(l *leaf) {
		l.nodes[place(l.nodes, id)].gone = true
		for _, e := range all {
			l.edges[place(l.edges, e)].gone = true
		}
	})
	return len(all)
}

func (b *book) mark() int { return len(b.leaves) - 1 }

func (b *book) undo(mark int) {
	need(mark >= 0 && mark <= b.mark(), api.ErrMark)
	b.leaves = b.leaves[:mark+1]
}

func (b *book) delta() (x api.Delta) {
	side := func(of []item, made func(item)) (gone []int64, sets []api.PropSet) {
		for _, x := range of {
			switch {
			case x.gone && x.id > 0:
				gone = append(gone, x.id)
			case !x.gone && x.id < 0:
				made(x)
			case !x.gone:
				for _, key := range slices.Sorted(maps.Keys(x.sets)) {
					sets = append(sets, to(x.id, key, x.sets[key]))
				}
			}
		}
		return gone, sets
	}
	x.DelNodes, x.SetNodes = side(b.now().nodes, func(n item) { x.NewNodes = append(x.NewNodes, n.node()) })
	x.DelEdges, x.SetEdges = side(b.now().edges, func(e item) { x.NewEdges = append(x.NewEdges, e.edge()) })
	return x
}

// shown: the graph that the book shows.
func (b *book) shown() (g api.Graph) {
	for _, n := range b.now().nodes {
		if !n.gone {
			g.Nodes = append(g.Nodes, n.node())
		}
	}
	for _, e := range b.now().edges {
		if !e.gone {
			g.Edges = append(g.Edges, e.edge())
		}
	}
	return g
}
