package space

import (
	"cmp"
	"slices"

	"trellis/api"
	"trellis/value"
)

// Mem: a graph in memory. It is a View on which every lock is there.
type Mem struct {
	nodes, edges table
	out, in      fan
	asked        []api.Asked
}

// Load: a graph in memory.
func Load(g api.Graph) (*Mem, api.Errno) {
	if !loadable(g) {
		return nil, api.ErrGraph
	}
	m := &Mem{nodes: tableOf(api.ErrNoNode), edges: tableOf(api.ErrNoEdge)}
	for _, n := range g.Nodes {
		m.nodes.ids = append(m.nodes.ids, n.Id)
		m.nodes.things[n.Id] = ofNode(n)
	}
	for _, e := range g.Edges {
		m.edges.ids = append(m.edges.ids, e.Id)
		m.edges.things[e.Id] = ofEdge(e)
	}
	m.out, m.in = fansOf(m.edges)
	return m, api.OK
}

// loadable: may the graph be loaded?
func loadable(g api.Graph) bool {
	nodes := mapped(g.Nodes, func(n api.Node) int64 { return n.Id })
	edges := mapped(g.Edges, func(e api.Edge) int64 { return e.Id })
	return rise(0, nodes) && rise(0, edges) &&
		every(g.Nodes, func(n api.Node) bool { return value.Name(n.Label) && good(n.Props) }) &&
		every(g.Edges, func(e api.Edge) bool {
			return value.Name(e.Type) && stands(nodes, e.From) && stands(nodes, e.To) && good(e.Props)
		})
}

// Graph: the whole graph.
func (m *Mem) Graph() api.Graph {
	if m == nil {
		return api.Graph{}
	}
	return api.Graph{
		Nodes: mapped(m.nodes.ids, func(id int64) api.Node { return m.nodes.things[id].node(id) }),
		Edges: mapped(m.edges.ids, func(id int64) api.Edge { return m.edges.things[id].edge(id) }),
	}
}

// Apply: all of the write set, or none.
func (m *Mem) Apply(x api.Delta) (api.Applied, api.Errno) {
	if m == nil {
		return api.Applied{}, api.ErrArg
	}
	if code := formFault(x); code != api.OK {
		return api.Applied{}, code
	}
	if code := m.fault(x); code != api.OK {
		return api.Applied{}, code
	}
	nodes := m.nodes.change(x.DelNodes, x.SetNodes, mapped(x.NewNodes, ofNode))
	settled := func(id int64) int64 {
		if at, found := placeOfNew(x, id); found {
			return nodes[at]
		}
		return id
	}
	edges := m.edges.change(x.DelEdges, x.SetEdges, mapped(x.NewEdges, func(e api.Edge) thing {
		e.From, e.To = settled(e.From), settled(e.To)
		return ofEdge(e)
	}))
	m.out, m.in = fansOf(m.edges)
	return api.Applied{Nodes: nodes, Edges: edges}, api.OK
}

// fault: the first error of a write set of the right form against the graph.
func (m *Mem) fault(x api.Delta) api.Errno {
	old := slices.DeleteFunc(ends(x), func(id int64) bool { return id < 0 })
	idOf := func(s api.PropSet) int64 { return s.Id }
	return cmp.Or(
		m.edges.lacks(x.DelEdges...),
		m.held(x),
		m.nodes.lacks(old...),
		m.nodes.lacks(mapped(x.SetNodes, idOf)...),
		m.edges.lacks(mapped(x.SetEdges, idOf)...),
		m.nodes.crowded(x.SetNodes),
		m.edges.crowded(x.SetEdges),
	)
}

// held: the error, if a node that goes is not there, or an edge that stays has it as an end.
func (m *Mem) held(x api.Delta) api.Errno {
	goes := func(e int64) bool { return stands(x.DelEdges, e) }
	for _, id := range x.DelNodes {
		if code := m.nodes.lacks(id); code != api.OK {
			return code
		}
		if !every(m.out[id], goes) || !every(m.in[id], goes) {
			return api.ErrHasEdges
		}
	}
	return api.OK
}

// Asked: what the graph was asked as a View, in order, since it was asked for last.
func (m *Mem) Asked() []api.Asked {
	if m == nil {
		return nil
	}
	out := slices.Clone(m.asked)
	clear(m.asked)
	m.asked = m.asked[:0]
	return out
}

// note: the graph is asked that.
func (m *Mem) note(a api.Asked) { m.asked = append(m.asked, a) }

// Nodes: ids of the nodes of that label ("": all), rising.
func (m *Mem) Nodes(label string) ([]int64, api.Errno) {
	if m == nil {
		return nil, api.ErrArg
	}
	m.note(api.Asked{What: api.QNodes, Label: label})
	if label != "" && !value.Name(label) {
		return nil, api.ErrName
	}
	return m.nodes.where(func(n thing) bool { return label == "" || n.name == label }), api.OK
}

// Find: ids of the nodes of that label whose property has that value, rising.
func (m *Mem) Find(label, key string, v api.Val) ([]int64, api.Errno) {
	if m == nil {
		return nil, api.ErrArg
	}
	m.note(api.Asked{What: api.QFind, Label: label, Key: key, Val: v})
	if !value.Name(label) || !value.Name(key) {
		return nil, api.ErrName
	}
	if !value.Valid(v) {
		return nil, api.ErrVal
	}
	return m.nodes.where(func(n thing) bool { return n.name == label && n.has(key, v) }), api.OK
}

// Node: a node.
func (m *Mem) Node(id int64) (api.Node, api.Errno) {
	if m == nil {
		return api.Node{}, api.ErrArg
	}
	m.note(api.Asked{What: api.QNode, Id: id})
	if code := m.nodes.lacks(id); code != api.OK {
		return api.Node{}, code
	}
	return m.nodes.things[id].node(id), api.OK
}

// Edge: an edge.
func (m *Mem) Edge(id int64) (api.Edge, api.Errno) {
	if m == nil {
		return api.Edge{}, api.ErrArg
	}
	m.note(api.Asked{What: api.QEdge, Id: id})
	if code := m.edges.lacks(id); code != api.OK {
		return api.Edge{}, code
	}
	return m.edges.things[id].edge(id), api.OK
}

// Out: ids of the edges that leave a node, rising.
func (m *Mem) Out(id int64) ([]int64, api.Errno) {
	if m == nil {
		return nil, api.ErrArg
	}
	m.note(api.Asked{What: api.QOut, Id: id})
	if code := m.nodes.lacks(id); code != api.OK {
		return nil, code
	}
	return slices.Clone(m.out[id]), api.OK
}

// In: ids of the edges that come to a node, rising.
func (m *Mem) In(id int64) ([]int64, api.Errno) {
	if m == nil {
		return nil, api.ErrArg
	}
	m.note(api.Asked{What: api.QIn, Id: id})
	if code := m.nodes.lacks(id); code != api.OK {
		return nil, code
	}
	return slices.Clone(m.in[id]), api.OK
}

// Hold: OK.
func (m *Mem) Hold(r api.Res, mode int) api.Errno {
	if m == nil {
		return api.ErrArg
	}
	m.note(api.Asked{What: api.QHold, Res: r, Mode: mode})
	return api.OK
}
