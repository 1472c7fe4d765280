package records

import (
	"trellis/api"
	"trellis/slots"
)

// work: a batch in which a write set is carried out.
type work struct {
	sight
	batch *slots.Batch
}

// workOn: all is read as the batch has it.
func workOn(b *slots.Batch) work { return work{sight: sight{b}, batch: b} }

// add: a new record, under the least free id.
func add[I ident, R record](w work, r R) I {
	var none I
	id := I(must(w.batch.Alloc(none.kind())))
	put(w, id, r)
	return id
}

func put[I ident, R record](w work, id I, r R) {
	check(w.batch.Put(id.kind(), int64(id), r.bytes()))
}

func free[I ident](w work, id I) {
	check(w.batch.Free(id.kind(), int64(id)))
}

// change: of a record: it is read as it stands, changed, and laid again.
func change[I ident, R record](w work, id I, read func([]byte) R, do func(*R)) {
	r := fetch(w, id, read)
	do(&r)
	put(w, id, r)
}

// chain: one that is changed.
type chain[I ident] struct {
	begin  func(I)                   // another one is its first
	relink func(I, func(l *link[I])) // a record of it has other neighbours
}

// join: the one stands right ahead of the other from now on; 0: the chain's beginning, or its end.
func (c chain[I]) join(ahead, behind I) {
	if ahead == 0 {
		c.begin(behind)
	} else {
		c.relink(ahead, func(l *link[I]) { l.behind = behind })
	}
	if behind != 0 {
		c.relink(behind, func(l *link[I]) { l.ahead = ahead })
	}
}

// edgesOf: a node's chain of edges of that side.
func (w work) edgesOf(n nodeId, s side) chain[edgeId] {
	return chain[edgeId]{
		begin: func(id edgeId) {
			change(w, n, nodeOf, func(n *node) { n.first[s] = id })
		},
		relink: func(id edgeId, do func(*link[edgeId])) {
			change(w, id, edgeOf, func(e *edge) { do(&e.links[s]) })
		},
	}
}

// dropEdge: the edge goes, with its properties.
func (w work) dropEdge(id edgeId) {
	for s := range sides {
		e := w.edge(id) // as it stands: its neighbours may have been mended
		w.edgesOf(e.ends[s], s).join(e.links[s].ahead, e.links[s].behind)
	}
	w.strip(id)
	free(w, id)
}

// dropNode: the node goes, with its properties.
func (w work) dropNode(id nodeId) {
	w.strip(id)
	free(w, id)
}

// makeNode: a new node.
func (w work) makeNode(n api.Node) nodeId {
	id := add[nodeId](w, node{label: n.Label})
	w.giveAll(id, n.Props)
	return id
}

// makeEdge: a new edge between these nodes, the first in their chains.
func (w work) makeEdge(e api.Edge, ends [sides]nodeId) edgeId {
	id := add[edgeId](w, edge{label: e.Type, ends: ends})
	for s, n := range ends {
		c := w.edgesOf(n, side(s))
		first := w.node(n).first[s]
		c.join(0, id)
		c.join(id, first)
	}
	w.giveAll(id, e.Props)
	return id
}

// eachSet: those of the write set's properties that go, or those that get a value: the nodes' first.
func eachSet(x api.Delta, going bool, do func(holder, api.PropSet)) {
	for _, s := range x.SetNodes {
		if goes(s) == going {
			do(nodeId(s.Id), s)
		}
	}
	for _, s := range x.SetEdges {
		if goes(s) == going {
			do(edgeId(s.Id), s)
		}
	}
}

// carry: the whole write set, in the order that says which ids are got.
func (w work) carry(x api.Delta) api.Applied {
	for _, id := range x.DelEdges {
		w.dropEdge(edgeId(id))
	}
	for _, id := range x.DelNodes {
		w.dropNode(nodeId(id))
	}
	eachSet(x, true, w.take)
	var out api.Applied
	for _, n := range x.NewNodes {
		out.Nodes = append(out.Nodes, int64(w.makeNode(n)))
	}
	end := func(id int64) nodeId {
		if i, isNew := placeOfNew(x, id); isNew {
			return nodeId(out.Nodes[i])
		}
		return nodeId(id)
	}
	for _, e := range x.NewEdges {
		out.Edges = append(out.Edges, int64(w.makeEdge(e, [...]nodeId{end(e.From), end(e.To)})))
	}
	eachSet(x, false, w.set)
	check(w.batch.SetRoot(api.RootCommits, w.commits()+1))
	return out
}
