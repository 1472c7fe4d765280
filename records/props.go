package records

import (
	"trellis/api"
	"trellis/index"
	"trellis/slots"
	"trellis/value"
)

// holder: a node or an edge, as what has properties.
type holder interface {
	props(g sight) propId                // the first one of its chain
	begin(w work, id propId)             // another one is the first
	key(g sight, p prop) (api.Key, bool) // the index's key of a property of it; false: it has none
}

func (id nodeId) props(g sight) propId { return g.node(id).props }
func (id edgeId) props(g sight) propId { return g.edge(id).props }

func (id nodeId) begin(w work, first propId) {
	change(w, id, nodeOf, func(n *node) { n.props = first })
}

func (id edgeId) begin(w work, first propId) {
	change(w, id, edgeOf, func(e *edge) { e.props = first })
}

func (id nodeId) key(g sight, p prop) (api.Key, bool) {
	return must(value.KeyOf(g.node(id).label, p.Key, p.Val, int64(id))), true
}

func (id edgeId) key(sight, prop) (api.Key, bool) { return api.Key{}, false }

// index: the key of a property, if it has one, is inserted or deleted.
func (w work) index(h holder, p prop, do func(*slots.Batch, api.Key) api.Errno) {
	if k, has := h.key(w.sight, p); has {
		check(do(w.batch, k))
	}
}

// propsOf: the chain of properties.
func (w work) propsOf(h holder) chain[propId] {
	return chain[propId]{
		begin: func(id propId) { h.begin(w, id) },
		relink: func(id propId, do func(*link[propId])) {
			change(w, id, propOf, func(p *prop) { do(&p.link) })
		},
	}
}

// give: a new property, laid into the chain between these two.
func (w work) give(h holder, at link[propId], told api.Prop) propId {
	p := prop{Prop: told}
	id := add[propId](w, p)
	c := w.propsOf(h)
	c.join(at.ahead, id)
	c.join(id, at.behind)
	w.index(h, p, index.Insert)
	return id
}

// giveAll: the properties of what has none yet.
func (w work) giveAll(h holder, list []api.Prop) {
	last := propId(0)
	for _, p := range list {
		last = w.give(h, link[propId]{ahead: last}, p)
	}
}

// strip: all properties are freed; their chain is not mended, since what has them goes.
func (w work) strip(h holder) {
	w.eachProp(h.props(w.sight), func(id propId, p prop) {
		w.index(h, p, index.Delete)
		free(w, id)
	})
}

// seek: the property with that key, and its place in the chain; 0: there is none, and the place is where it would stand.
func (w work) seek(h holder, key string) (found propId, p prop, at link[propId]) {
	w.eachProp(h.props(w.sight), func(id propId, x prop) {
		switch {
		case x.Key < key:
			at.ahead = id
		case x.Key == key:
			found, p = id, x
		case at.behind == 0:
			at.behind = id
		}
	})
	return found, p, at
}

// take: the property with that key goes, if there is one.
func (w work) take(h holder, s api.PropSet) {
	id, p, at := w.seek(h, s.Key)
	if id == 0 {
		return
	}
	w.index(h, p, index.Delete)
	w.propsOf(h).join(at.ahead, at.behind)
	free(w, id)
}

// set: the property with that key has that value.
func (w work) set(h holder, s api.PropSet) {
	id, p, at := w.seek(h, s.Key)
	if id == 0 {
		w.give(h, at, api.Prop{Key: s.Key, Val: s.Val})
		return
	}
	old := p
	p.Val = s.Val
	put(w, id, p)
	w.index(h, old, index.Delete)
	w.index(h, p, index.Insert)
}
