package records

import (
	"math"
	"slices"

	"trellis/api"
	"trellis/index"
	"trellis/value"
)

// mostEdges: no store has so many slots for edges: a chain that is longer goes in a ring.
const mostEdges = api.MaxPages * api.PageBytes / api.SizeEdge

// maxId: above the id of every record.
const maxId = math.MaxUint32

// eyes: what reads records: a store or a batch.
type eyes interface {
	api.Getter
	Used(kind int) ([]int64, api.Errno)
}

// sight: the graph in the eyes of a store, or of a batch. What cannot be read gives up.
type sight struct {
	eyes
}

// fetch: the record of that id.
func fetch[I ident, R record](from api.Getter, id I, read func([]byte) R) R {
	b, code := from.Get(id.kind(), int64(id))
	if code == api.ErrSlotId {
		code = id.missing()
	}
	check(code)
	return read(b)
}

// walk: goes along a chain from its first record on: each is read, and then handed to what is to be done at each.
func walk[I ident, R record](first I, most int, read func(I) R, behind func(R) I, do func(I, R)) {
	for id := first; id != 0; most-- {
		if most == 0 {
			check(unreadable)
		}
		r := read(id)
		do(id, r)
		id = behind(r)
	}
}

func (g sight) node(id nodeId) node { return fetch(g, id, nodeOf) }
func (g sight) edge(id edgeId) edge { return fetch(g, id, edgeOf) }
func (g sight) prop(id propId) prop { return fetch(g, id, propOf) }

// eachEdge: along a node's chain of that side.
func (g sight) eachEdge(id nodeId, s side, do func(edgeId, edge)) {
	walk(g.node(id).first[s], mostEdges, g.edge, func(e edge) edgeId { return e.links[s].behind }, do)
}

// eachProp: along a chain of properties.
func (g sight) eachProp(first propId, do func(propId, prop)) {
	walk(first, api.MaxProps, g.prop, func(p prop) propId { return p.link.behind }, do)
}

// told: the properties of a chain, as they are told.
func (g sight) told(first propId) []api.Prop {
	var out []api.Prop
	g.eachProp(first, func(_ propId, p prop) { out = append(out, p.Prop) })
	return out
}

// wholeNode: a node with its properties.
func (g sight) wholeNode(id int64) api.Node {
	n := g.node(nodeId(id))
	return api.Node{Id: id, Label: n.label, Props: g.told(n.props)}
}

// wholeEdge: an edge with its properties.
func (g sight) wholeEdge(id int64) api.Edge {
	e := g.edge(edgeId(id))
	return api.Edge{Id: id, Type: e.label, From: int64(e.ends[leaves]), To: int64(e.ends[comes]), Props: g.told(e.props)}
}

// whole: the whole graph.
func (g sight) whole() api.Graph {
	var out api.Graph
	for _, id := range must(g.Used(api.SNode)) {
		out.Nodes = append(out.Nodes, g.wholeNode(id))
	}
	for _, id := range must(g.Used(api.SEdge)) {
		out.Edges = append(out.Edges, g.wholeEdge(id))
	}
	return out
}

// commits: how many write sets were applied.
func (g sight) commits() int64 { return must(g.Root(api.RootCommits)) }

// labelled: the ids of the nodes with that label, or of all.
func (g sight) labelled(label string) []int64 {
	ids := must(g.Used(api.SNode))
	if label == "" {
		return ids
	}
	return slices.DeleteFunc(ids, func(id int64) bool { return g.node(nodeId(id)).label != label })
}

// having: the ids of the nodes of that label whose property has just that value. A key of the index has the value's first bytes alone: the property says whether it is the one.
func (g sight) having(label, key string, v api.Val) []int64 {
	g.commits() // a dead store is told ahead of all else
	if !value.Storable(v) {
		return nil
	}
	from, to := must(value.KeyOf(label, key, v, 1)), must(value.KeyOf(label, key, v, maxId))
	var out []int64
	for _, k := range must(index.Scan(g, from, to, math.MaxInt)) {
		id := number(k[len(k)-idBytes:])
		if slices.Contains(g.told(g.node(nodeId(id)).props), api.Prop{Key: key, Val: v}) {
			out = append(out, id)
		}
	}
	return out
}

// edges: the ids of the edges of a node's chain of that side, rising.
func (g sight) edges(id int64, s side) []int64 {
	var out []int64
	g.eachEdge(nodeId(id), s, func(e edgeId, _ edge) { out = append(out, int64(e)) })
	slices.Sort(out)
	return out
}
