package machine

import (
	"slices"

	"trellis/api"
)

// match: paths that are sought. Its steps are those of all its paths, one behind the other.
type match struct {
	optional bool
	steps    []step
	where    worth
}

// goOn: the search goes on from a node.
type goOn func(at int64) api.Errno

// step: a step of a match. It is come to from a node (at the beginning of a path that says nothing), and goes on to what comes behind it as often as something fits.
type step func(x *search, from int64, behind goOn) api.Errno

func (s scope) match(m api.Match) match {
	out := match{optional: m.Optional}
	for _, p := range m.Paths {
		out.steps = append(out.steps, s.nodePattern(p.From).begin)
		for _, h := range p.Hops {
			out.steps = append(out.steps, s.soughtHop(h).leave, s.nodePattern(h.To).arrive)
		}
	}
	out.where = s.condition(m.Where)
	return out
}

// solve: the rows behind the match.
func (m match) solve(r *run, rows []row) ([]row, api.Errno) {
	x := &search{run: r, where: m.where}
	begin := x.chain(m.steps)
	for _, old := range rows {
		before := len(x.found)
		x.row = slices.Clone(old)
		if code := begin(0); code != api.OK {
			return nil, code
		}
		if m.optional && len(x.found) == before {
			if code := x.keep(old); code != api.OK {
				return nil, code
			}
		}
	}
	return x.found, api.OK
}

// search: the search for what solves a match, and what it has found.
type search struct {
	*run
	where worth
	row   row     // as it is at the step to which the search has come; what is bound further right counts for nothing
	used  []int64 // the edges of the hops further left
	found []row
}

// chain: the steps one behind the other, and a solution behind the last one.
func (x *search) chain(steps []step) goOn {
	next := x.solved
	for _, s := range slices.Backward(steps) {
		behind := next
		next = func(at int64) api.Errno { return s(x, at, behind) }
	}
	return next
}

// solved: all paths have come to their end.
func (x *search) solved(int64) api.Errno {
	stays, code := x.holds(x.where, x.row)
	if code != api.OK || !stays {
		return code
	}
	return x.keep(slices.Clone(x.row))
}

// keep: one more row stays.
func (x *search) keep(one row) api.Errno {
	if len(x.found) == api.MaxRows {
		return api.ErrRows
	}
	x.found = append(x.found, one)
	return api.OK
}

// begin: a node that is sought stands at the beginning of a path.
func (n nodePattern) begin(x *search, _ int64, behind goOn) api.Errno {
	wanted, code := x.wanted(n.pairs, x.row)
	if code != api.OK {
		return code
	}
	ids, code := n.candidates(x, wanted)
	if code != api.OK {
		return code
	}
	return n.among(x, ids, wanted, behind)
}

// candidates: the node that the variable has, if it is bound.
func (n nodePattern) candidates(x *search, wanted []api.Prop) ([]int64, api.Errno) {
	if !n.bound {
		return x.run.candidates(n.label, wanted)
	}
	if x.row[n.place].Kind == api.KNull {
		return nil, api.OK
	}
	return []int64{x.row[n.place].A}, api.OK
}

// arrive: a node that is sought stands behind a hop that leads to that one.
func (n nodePattern) arrive(x *search, at int64, behind goOn) api.Errno {
	wanted, code := x.wanted(n.pairs, x.row)
	if code != api.OK {
		return code
	}
	if n.other(x.row, node(at)) {
		return api.OK
	}
	return n.among(x, []int64{at}, wanted, behind)
}

// among: the search goes on from each of the nodes that fits.
func (n nodePattern) among(x *search, ids []int64, wanted []api.Prop, behind goOn) api.Errno {
candidates:
	for _, id := range ids {
		is, code := ask(x.run, x.space.Node, id)
		if code != api.OK {
			return code
		}
		if n.label != "" && is.Label != n.label {
			continue
		}
		for _, p := range wanted {
			if !slices.Contains(is.Props, p) {
				continue candidates
			}
		}
		n.bind(x.row, node(id))
		if code := behind(id); code != api.OK {
			return code
		}
	}
	return api.OK
}

// hopSought: a hop of a path that is sought: from least to most edges, one behind the other. (Without a star: one.)
type hopSought struct {
	variable
	kind        string
	dir         int
	least, most int
	pairs       []pair
}

func (s scope) soughtHop(h api.HopPat) hopSought {
	pairs := s.pairs(h.Props) // ahead of its own variable
	return hopSought{s.meet(h.Var), h.Type, h.Dir, h.Min, h.Max, pairs}
}

// leave: the hop begins at a node.
func (h hopSought) leave(x *search, from int64, behind goOn) api.Errno {
	wanted, code := x.wanted(h.pairs, x.row)
	if code != api.OK {
		return code
	}
	return h.further(x, from, 0, wanted, behind)
}

// further: a way of so many edges has come to a node.
func (h hopSought) further(x *search, at int64, edges int, wanted []api.Prop, behind goOn) api.Errno {
	if edges >= h.least {
		if code := behind(at); code != api.OK {
			return code
		}
	}
	if edges >= h.most {
		return api.OK
	}
	return h.along(x, at, wanted, func(to int64) api.Errno {
		return h.further(x, to, edges+1, wanted, behind)
	})
}

// along: the way goes on along each of the node's edges that fits and is not used yet.
func (h hopSought) along(x *search, from int64, wanted []api.Prop, next goOn) api.Errno {
	leads, code := x.leads(from, h.dir)
	if code != api.OK {
		return code
	}
edges:
	for _, l := range leads {
		if slices.Contains(x.used, l.edge) || h.other(x.row, edge(l.edge)) {
			continue
		}
		is, code := ask(x.run, x.space.Edge, l.edge)
		if code != api.OK {
			return code
		}
		if !ofType(is, h.kind) {
			continue
		}
		for _, p := range wanted {
			if !slices.Contains(is.Props, p) {
				continue edges
			}
		}
		h.bind(x.row, edge(l.edge))
		x.used = append(x.used, l.edge)
		code = next(l.end(is))
		x.used = x.used[:len(x.used)-1]
		if code != api.OK {
			return code
		}
	}
	return api.OK
}

// end: the node to which the edge leads.
func (l lead) end(e api.Edge) int64 {
	if l.back {
		return e.From
	}
	return e.To
}
