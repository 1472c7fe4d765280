package space

import (
	"slices"

	"trellis/api"
)

// Nodes: ids of the nodes of that label ("": all): those of the view rising, then the new ones as they were made.
func (s *Space) Nodes(label string) ([]int64, api.Errno) {
	if s == nil {
		return nil, api.ErrArg
	}
	ids, code := s.base.Nodes(label)
	if code != api.OK {
		return nil, code
	}
	return append(s.nodes.staying(ids), s.ownNodes(func(n thing) bool { return label == "" || n.name == label })...), api.OK
}

// Find: ids of the nodes of that label whose property has that value, in the same order.
func (s *Space) Find(label, key string, v api.Val) ([]int64, api.Errno) {
	if s == nil {
		return nil, api.ErrArg
	}
	ids, code := s.base.Find(label, key, v)
	if code != api.OK {
		return nil, code
	}
	still := slices.DeleteFunc(s.nodes.staying(ids), func(id int64) bool { return s.nodes.touched(id, key) })
	olds := append(still, s.nodes.setTo(label, key, v)...)
	slices.Sort(olds)
	return append(olds, s.ownNodes(func(n thing) bool { return n.name == label && n.has(key, v) })...), api.OK
}

// ownNodes: its own nodes that are not gone and for which it is so, in the order in which they were made.
func (s *Space) ownNodes(is func(thing) bool) []int64 {
	return slices.DeleteFunc(s.nodes.made(), func(id int64) bool { return !is(s.nodes.own[id]) })
}

// Node: a node as the write set has it.
func (s *Space) Node(id int64) (api.Node, api.Errno) {
	if s == nil {
		return api.Node{}, api.ErrArg
	}
	if code := s.nodes.fault(id); code != api.OK {
		return api.Node{}, code
	}
	if id < 0 {
		return s.nodes.own[id].node(id), api.OK
	}
	n, code := s.base.Node(id)
	if code != api.OK {
		return api.Node{}, code
	}
	n.Props = s.nodes.sets[id].props.over(n.Props)
	return n, api.OK
}

// Edge: an edge as the write set has it.
func (s *Space) Edge(id int64) (api.Edge, api.Errno) {
	if s == nil {
		return api.Edge{}, api.ErrArg
	}
	if code := s.edges.fault(id); code != api.OK {
		return api.Edge{}, code
	}
	if id < 0 {
		return s.edges.own[id].edge(id), api.OK
	}
	e, code := s.base.Edge(id)
	if code != api.OK {
		return api.Edge{}, code
	}
	e.Props = s.edges.sets[id].props.over(e.Props)
	return e, api.OK
}

// Out: ids of the edges that leave a node: those of the view rising, then the new ones.
func (s *Space) Out(id int64) ([]int64, api.Errno) {
	if s == nil {
		return nil, api.ErrArg
	}
	return s.around(id, s.base.Out, s.out)
}

// In: ids of the edges that come to a node, in the same order.
func (s *Space) In(id int64) ([]int64, api.Errno) {
	if s == nil {
		return nil, api.ErrArg
	}
	return s.around(id, s.base.In, s.in)
}

// around: the edges on one side of a node: those that the base answers, then its own.
func (s *Space) around(id int64, ask func(int64) ([]int64, api.Errno), own fan) ([]int64, api.Errno) {
	if code := s.nodes.fault(id); code != api.OK {
		return nil, code
	}
	var olds []int64
	if id >= 0 {
		ids, code := ask(id)
		if code != api.OK {
			return nil, code
		}
		olds = ids
	}
	return slices.DeleteFunc(slices.Concat(olds, own[id]), s.edges.isGone), api.OK
}

// Hold: the view's.
func (s *Space) Hold(r api.Res, mode int) api.Errno {
	if s == nil {
		return api.ErrArg
	}
	return s.base.Hold(r, mode)
}
