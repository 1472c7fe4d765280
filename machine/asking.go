package machine

import (
	"slices"

	"trellis/api"
	"trellis/paths"
)

// The operations that ask the space.

// valueOf: the value of a property; null, if it is not there.
func valueOf(props []api.Prop, key string) api.Val {
	at := slices.IndexFunc(props, func(p api.Prop) bool { return p.Key == key })
	if at < 0 {
		return api.Val{}
	}
	return props[at].Val
}

// property: of null it is null.
func property(key string) operation {
	return func(r *run, of []api.Val) (api.Val, api.Errno) {
		switch of[0].Kind {
		case api.KNull:
			return api.Val{}, api.OK
		case api.KNode:
			n, code := ask(r, r.space.Node, of[0].A)
			return valueOf(n.Props, key), code
		case api.KEdge:
			e, code := ask(r, r.space.Edge, of[0].A)
			return valueOf(e.Props, key), code
		}
		return api.Val{}, api.ErrKind
	}
}

// about: what is told of the id of a thing of that kind; of null it is null.
func about(kind int, tell func(r *run, id int64) (api.Val, api.Errno)) operation {
	return func(r *run, of []api.Val) (api.Val, api.Errno) {
		switch of[0].Kind {
		case api.KNull:
			return api.Val{}, api.OK
		case kind:
			return tell(r, of[0].A)
		}
		return api.Val{}, api.ErrKind
	}
}

func label(r *run, id int64) (api.Val, api.Errno) {
	n, code := ask(r, r.space.Node, id)
	if code != api.OK {
		return api.Val{}, code
	}
	return text(n.Label), api.OK
}

func typeOf(r *run, id int64) (api.Val, api.Errno) {
	e, code := ask(r, r.space.Edge, id)
	if code != api.OK {
		return api.Val{}, code
	}
	return text(e.Type), api.OK
}

// ofType: is the edge of that type? Where none is named each is.
func ofType(e api.Edge, name string) bool { return name == "" || e.Type == name }

// degree: how many edges leave the node. What types they have is asked only where one is named.
func degree(name string) func(r *run, id int64) (api.Val, api.Errno) {
	return func(r *run, id int64) (api.Val, api.Errno) {
		edges, code := ask(r, r.space.Out, id)
		if code != api.OK {
			return api.Val{}, code
		}
		if name == "" {
			return whole(int64(len(edges))), api.OK
		}
		n := int64(0)
		for _, at := range edges {
			e, code := ask(r, r.space.Edge, at)
			if code != api.OK {
				return api.Val{}, code
			}
			if ofType(e, name) {
				n++
			}
		}
		return whole(n), api.OK
	}
}

// between: how far it is from the first node to the second; null, if one of them is null, or if there is no way.
func between(far func(r *run, from, to int64) (int64, bool, api.Errno)) operation {
	return func(r *run, of []api.Val) (api.Val, api.Errno) {
		if slices.ContainsFunc(of, func(v api.Val) bool { return v.Kind != api.KNode && v.Kind != api.KNull }) {
			return api.Val{}, api.ErrKind
		}
		if slices.Contains(of, api.Val{}) {
			return api.Val{}, api.OK
		}
		n, found, code := far(r, of[0].A, of[1].A)
		if code != api.OK || !found {
			return api.Val{}, code
		}
		return whole(n), api.OK
	}
}

// arcs: the arcs of a node, as a search for ways asks for them. toArc: the arc that an edge is, if it is one.
func (r *run) arcs(toArc func(e api.Edge) (api.Arc, bool, api.Errno)) func(id int64) ([]api.Arc, api.Errno) {
	return func(id int64) ([]api.Arc, api.Errno) {
		edges, code := ask(r, r.space.Out, id)
		if code != api.OK {
			return nil, code
		}
		var out []api.Arc
		for _, at := range edges {
			e, code := ask(r, r.space.Edge, at)
			if code != api.OK {
				return nil, code
			}
			arc, is, code := toArc(e)
			if code != api.OK {
				return nil, code
			}
			if is {
				out = append(out, arc)
			}
		}
		return out, api.OK
	}
}

// hops: by the number of edges, of that type if one is named.
func hops(name string) func(r *run, from, to int64) (int64, bool, api.Errno) {
	toArc := func(e api.Edge) (api.Arc, bool, api.Errno) {
		return api.Arc{Edge: e.Id, To: e.To}, ofType(e, name), api.OK
	}
	return func(r *run, from, to int64) (int64, bool, api.Errno) {
		n, found, code := paths.Hops(r.arcs(toArc), from, to)
		return int64(n), found, code
	}
}

// dist: by the sum of a property of the edges of that type; those without it are no arcs.
func dist(name, key string) func(r *run, from, to int64) (int64, bool, api.Errno) {
	toArc := func(e api.Edge) (api.Arc, bool, api.Errno) {
		weight := valueOf(e.Props, key)
		if e.Type != name || weight.Kind == api.KNull {
			return api.Arc{}, false, api.OK
		}
		if weight.Kind != api.KInt {
			return api.Arc{}, false, api.ErrKind
		}
		return api.Arc{Edge: e.Id, To: e.To, Weight: weight.A}, true, api.OK
	}
	return func(r *run, from, to int64) (int64, bool, api.Errno) {
		way, found, code := paths.Least(r.arcs(toArc), from, to)
		return way.Sum, found, code
	}
}
