package txn

import "trellis/api"

// footing: the store, and the claims of a transaction that works on it. What needs no lock, as which label a node has, is asked of the store by the promoted methods.
type footing struct {
	api.View
	*claims
}

// lockedView: the store as a transaction sees it: what it reads it asks the locks for first.
type lockedView struct {
	footing
}

func graphRes() api.Res             { return api.Res{Level: api.RGraph} }
func labelRes(label string) api.Res { return api.Res{Level: api.RLabel, Label: label} }
func nodeRes(id int64) api.Res      { return api.Res{Level: api.RNode, Id: id} }

// readNode: the locks for reading a node. Of one that is not there the store tells.
func (f footing) readNode(id int64) api.Errno {
	n, code := f.Node(id)
	if code != api.OK || f.readsUnder(graphRes()) {
		return api.OK
	}
	if code := f.ask(graphRes(), api.MIS); code != api.OK {
		return code
	}
	label := labelRes(n.Label)
	if f.readsUnder(label) {
		return api.OK
	}
	if code := f.ask(label, api.MIS); code != api.OK {
		return code
	}
	return f.ask(nodeRes(id), api.MS)
}

// scan: the locks for reading all nodes of a label ("": all nodes).
func (f footing) scan(label string) api.Errno {
	if label == "" {
		return f.ask(graphRes(), api.MS)
	}
	if f.readsUnder(graphRes()) {
		return api.OK
	}
	if code := f.ask(graphRes(), api.MIS); code != api.OK {
		return code
	}
	return f.ask(labelRes(label), api.MS)
}

// Nodes: behind a scan of the label.
func (v lockedView) Nodes(label string) ([]int64, api.Errno) {
	if code := v.scan(label); code != api.OK {
		return nil, code
	}
	return v.footing.Nodes(label)
}

// Find: behind a scan of the label.
func (v lockedView) Find(label, key string, of api.Val) ([]int64, api.Errno) {
	if code := v.scan(label); code != api.OK {
		return nil, code
	}
	return v.footing.Find(label, key, of)
}

// Node: behind the reading of the node.
func (v lockedView) Node(id int64) (api.Node, api.Errno) {
	if code := v.readNode(id); code != api.OK {
		return api.Node{}, code
	}
	return v.footing.Node(id)
}

// Edge: behind the reading of the node that it leaves.
func (v lockedView) Edge(id int64) (api.Edge, api.Errno) {
	e, code := v.footing.Edge(id)
	if code != api.OK {
		return api.Edge{}, code
	}
	if code := v.readNode(e.From); code != api.OK {
		return api.Edge{}, code
	}
	return e, api.OK
}

// Out: behind the reading of the node.
func (v lockedView) Out(id int64) ([]int64, api.Errno) {
	if code := v.readNode(id); code != api.OK {
		return nil, code
	}
	return v.footing.Out(id)
}

// In: behind the reading of the node.
func (v lockedView) In(id int64) ([]int64, api.Errno) {
	if code := v.readNode(id); code != api.OK {
		return nil, code
	}
	return v.footing.In(id)
}

// Hold: the mode on the resource, behind what it means for those above it.
func (v lockedView) Hold(r api.Res, mode int) api.Errno {
	above, code := v.above(r)
	if code != api.OK {
		return code
	}
	for _, x := range above {
		if code := v.ask(x, v.intention(r, mode)); code != api.OK {
			return code
		}
	}
	return v.ask(r, mode)
}

// above: the resources that the resource is a part of, the graph first.
func (f footing) above(r api.Res) ([]api.Res, api.Errno) {
	switch r.Level {
	case api.RLabel:
		return []api.Res{graphRes()}, api.OK
	case api.RNode:
		n, code := f.Node(r.Id)
		return []api.Res{graphRes(), labelRes(n.Label)}, code
	}
	return nil, api.OK
}
