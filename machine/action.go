package machine

import (
	"slices"
	"strings"

	"trellis/api"
	"trellis/value"
)

// action: what is done for a row.
type action func(r *run, x row) api.Errno

func (s scope) action(a api.Action) action {
	switch a.Kind {
	case api.ACreate:
		return s.pathMade(a.Path).create
	case api.AMerge:
		return s.nodePattern(a.Path.From).merge
	case api.ASet:
		return set(s[a.Var], a.Key, s.worth(a.Val[0]))
	case api.ARemove:
		return set(s[a.Var], a.Key, literal(api.Val{}))
	case api.ADelete:
		return remove(s[a.Var], a.Detach)
	}
	return abort
}

// abort: comes to nothing where there is no row.
func abort(*run, row) api.Errno { return api.ErrAborted }

// hopMade: a hop of a path that is made, and the node behind it.
type hopMade struct {
	variable
	kind  string
	back  bool // the edge goes from the node behind it to the one ahead of it
	pairs []pair
	to    nodePattern
}

func (s scope) madeHop(h api.HopPat) hopMade {
	to := s.nodePattern(h.To) // ahead of the hop's own pairs, which may use its variable
	pairs := s.pairs(h.Props)
	return hopMade{s.meet(h.Var), h.Type, h.Dir == api.DIn, pairs, to}
}

// pathMade: a path that is made.
type pathMade struct {
	from nodePattern
	hops []hopMade
}

func (s scope) pathMade(p api.Path) pathMade {
	out := pathMade{from: s.nodePattern(p.From)}
	for _, h := range p.Hops {
		out.hops = append(out.hops, s.madeHop(h))
	}
	return out
}

func (p pathMade) create(r *run, x row) api.Errno {
	at, code := p.from.create(r, x)
	for _, h := range p.hops {
		if code != api.OK {
			return code
		}
		at, code = h.create(r, x, at)
	}
	return code
}

// create: the node that the variable has, or else a new one.
func (n nodePattern) create(r *run, x row) (int64, api.Errno) {
	if n.bound {
		if x[n.place].Kind != api.KNode {
			return 0, api.ErrKind
		}
		return x[n.place].A, api.OK
	}
	props, code := r.wanted(n.pairs, x)
	if code != api.OK {
		return 0, code
	}
	return n.add(r, x, props)
}

// add: a new node.
func (n nodePattern) add(r *run, x row, props []api.Prop) (int64, api.Errno) {
	if code := r.spend(); code != api.OK {
		return 0, code
	}
	id, code := r.space.AddNode(n.label, kept(props))
	if code != api.OK {
		return 0, code
	}
	r.made++
	n.bind(x, node(id))
	return id, api.OK
}

// create: the node behind the hop, then the edge; the answer is that node.
func (h hopMade) create(r *run, x row, ahead int64) (int64, api.Errno) {
	to, code := h.to.create(r, x)
	if code != api.OK {
		return 0, code
	}
	props, code := r.wanted(h.pairs, x)
	if code != api.OK {
		return 0, code
	}
	if code := r.spend(); code != api.OK {
		return 0, code
	}
	tail, head := ahead, to
	if h.back {
		tail, head = to, ahead
	}
	id, code := r.space.AddEdge(h.kind, tail, head, kept(props))
	if code != api.OK {
		return 0, code
	}
	r.made++
	h.bind(x, edge(id))
	return to, api.OK
}

// kept: the properties without those that are null, keys rising.
func kept(props []api.Prop) []api.Prop {
	out := slices.DeleteFunc(props, func(p api.Prop) bool { return p.Val.Kind == api.KNull })
	slices.SortFunc(out, func(a, b api.Prop) int { return strings.Compare(a.Key, b.Key) })
	return out
}

// merge: the first node that has all properties, or else a new one.
func (n nodePattern) merge(r *run, x row) api.Errno {
	wanted, code := r.wanted(n.pairs, x)
	if code != api.OK {
		return code
	}
	if slices.ContainsFunc(wanted, func(p api.Prop) bool { return !value.Storable(p.Val) }) {
		return api.ErrProps
	}
	id, found, code := n.first(r, wanted)
	if code != api.OK {
		return code
	}
	if !found {
		_, code := n.add(r, x, wanted)
		return code
	}
	n.bind(x, node(id))
	return api.OK
}

// first: the first node of the label that has all these properties.
func (n nodePattern) first(r *run, wanted []api.Prop) (int64, bool, api.Errno) {
	ids, code := r.candidates(n.label, wanted)
	if code != api.OK {
		return 0, false, code
	}
candidates:
	for _, id := range ids {
		is, code := ask(r, r.space.Node, id)
		if code != api.OK {
			return 0, false, code
		}
		for _, p := range wanted {
			if !slices.Contains(is.Props, p) {
				continue candidates
			}
		}
		return id, true, api.OK
	}
	return 0, false, api.OK
}

// set: a property of what stands at a place gets a value, or (null) is taken away.
func set(place int, key string, val worth) action {
	return func(r *run, x row) api.Errno {
		of := x[place]
		if of.Kind == api.KNull {
			return api.OK
		}
		v, code := val(r, x)
		if code != api.OK {
			return code
		}
		if code := r.spend(); code != api.OK {
			return code
		}
		change := r.space.SetNode
		if of.Kind == api.KEdge {
			change = r.space.SetEdge
		}
		if code := change(of.A, key, v); code != api.OK {
			return code
		}
		r.set++
		return api.OK
	}
}

// remove: what stands at a place is deleted, if that was not done already.
func remove(place int, detach bool) action {
	return func(r *run, x row) api.Errno {
		of := x[place]
		if of.Kind == api.KNull {
			return api.OK
		}
		edges, code := r.drop(of, detach)
		switch code {
		case api.OK:
			r.gone += 1 + edges
		case api.ErrGone:
			return api.OK
		}
		return code
	}
}

// drop: a node or an edge goes; how many edges went with it.
func (r *run) drop(of api.Val, detach bool) (int, api.Errno) {
	if code := r.spend(); code != api.OK {
		return 0, code
	}
	if of.Kind == api.KEdge {
		return 0, r.space.DelEdge(of.A)
	}
	return r.space.DelNode(of.A, detach)
}
