package machine

import (
	"trellis/api"
	"trellis/value"
)

// worth: what an expression is worth in a row.
type worth func(r *run, x row) (api.Val, api.Errno)

// operation: what an expression is worth, given the values of all its kids.
type operation func(r *run, of []api.Val) (api.Val, api.Errno)

// strict: an expression whose kids are all evaluated, from left to right, ahead of its operation.
type strict struct {
	kids []worth
	do   operation
}

func (s strict) worth(r *run, x row) (api.Val, api.Errno) {
	of, code := r.values(s.kids, x)
	if code != api.OK {
		return api.Val{}, code
	}
	return s.do(r, of)
}

// choice: conditions, each with its value behind it, and the else.
type choice struct {
	kids []worth
}

func (c choice) worth(r *run, x row) (api.Val, api.Errno) {
	last := len(c.kids) - 1
	for i := 0; i < last; i += 2 {
		met, code := r.holds(c.kids[i], x)
		if code != api.OK {
			return api.Val{}, code
		}
		if met {
			return c.kids[i+1](r, x)
		}
	}
	return c.kids[last](r, x)
}

// firstKnown: the first kid that is not null; those behind it are left out.
type firstKnown struct {
	kids []worth
}

func (f firstKnown) worth(r *run, x row) (api.Val, api.Errno) {
	for _, kid := range f.kids {
		v, code := kid(r, x)
		if code != api.OK || v.Kind != api.KNull {
			return v, code
		}
	}
	return api.Val{}, api.OK
}

func literal(v api.Val) worth {
	return func(*run, row) (api.Val, api.Errno) { return v, api.OK }
}

// standsAt: what stands at a place of the row.
func standsAt(place int) worth {
	return func(_ *run, x row) (api.Val, api.Errno) { return x[place], api.OK }
}

func whole(n int64) api.Val { return api.Val{Kind: api.KInt, A: n} }

func text(s string) api.Val { return api.Val{Kind: api.KStr, S: s} }

func node(id int64) api.Val { return api.Val{Kind: api.KNode, A: id} }

func edge(id int64) api.Val { return api.Val{Kind: api.KEdge, A: id} }

func truth(is bool) api.Val {
	v := api.Val{Kind: api.KBool}
	if is {
		v.A = 1
	}
	return v
}

func unary(op int) operation {
	return func(_ *run, of []api.Val) (api.Val, api.Errno) { return value.Unary(op, of[0]) }
}

func binary(op int) operation {
	return func(_ *run, of []api.Val) (api.Val, api.Errno) { return value.Binary(op, of[0], of[1]) }
}

// nullTest: is it null, or is it not null?
func nullTest(wants bool) operation {
	return func(_ *run, of []api.Val) (api.Val, api.Errno) {
		return truth((of[0].Kind == api.KNull) == wants), api.OK
	}
}

// among: is the first one among the others? The three-valued or is true if one is the same, else null if it is not known of one.
func among(_ *run, of []api.Val) (api.Val, api.Errno) {
	found := truth(false)
	for _, other := range of[1:] {
		same, code := value.Binary(api.BEq, of[0], other)
		if code != api.OK {
			return api.Val{}, code
		}
		if found, code = value.Binary(api.BOr, found, same); code != api.OK {
			return api.Val{}, code
		}
	}
	return found, api.OK
}
