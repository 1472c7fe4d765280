package syntax

import "trellis/api"

func (r *reader) atPath() bool { return r.sees("(") }
func (r *reader) atHop() bool  { return r.seesOne("-", "<") }

func (r *reader) path() api.Path {
	p := api.Path{From: r.node()}
	for r.atHop() {
		r.room(len(p.Hops), api.MaxHops)
		p.Hops = append(p.Hops, r.hop())
	}
	return p
}

func (r *reader) node() api.NodePat {
	r.need("(")
	n := api.NodePat{Var: r.nameIfAny(), Label: r.nameBehind(":"), Props: r.props()}
	r.need(")")
	return n
}

// hop: only one of the two arrows may stand there.
func (r *reader) hop() api.HopPat {
	in := r.took("<")
	r.need("-")
	h := r.edge()
	r.need("-")
	switch {
	case in:
		h.Dir = api.DIn
	case r.took(">"):
		h.Dir = api.DOut
	default:
		h.Dir = api.DBoth
	}
	h.To = r.node()
	return h
}

// edge: what stands in the brackets of a hop; without them as if they were empty.
func (r *reader) edge() api.HopPat {
	h := api.HopPat{Min: 1, Max: 1}
	if !r.took("[") {
		return h
	}
	h.Var, h.Type = r.nameIfAny(), r.nameBehind(":")
	if r.took("*") {
		h.Star = true
		h.Min, h.Max = r.leap()
	}
	h.Props = r.props()
	r.need("]")
	return h
}

// leap: the least and the greatest length that stand behind a star.
func (r *reader) leap() (int, int) {
	least, most := 1, api.MaxLeap
	if r.atNumber() {
		least = r.number(1, api.MaxLeap)
		most = least
	}
	if r.took("..") {
		most = api.MaxLeap
		if r.atNumber() {
			most = r.number(uint64(least), api.MaxLeap)
		}
	}
	return least, most
}

// props: the pairs in braces; none without them.
func (r *reader) props() []api.Pair {
	if !r.took("{") || r.took("}") {
		return nil
	}
	out := list(r, nil, api.MaxProps, (*reader).atName, (*reader).pair)
	r.need("}")
	return out
}

func (r *reader) pair() api.Pair {
	key := r.name()
	r.need(":")
	return api.Pair{Key: key, Val: r.whole()}
}
