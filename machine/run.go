package machine

import (
	"slices"

	"trellis/api"
	"trellis/space"
)

// run: a query that is run.
type run struct {
	space           *space.Space
	fuel            int // askings that may still be done
	made, gone, set int
}

// spend: an asking takes its fuel.
func (r *run) spend() api.Errno {
	if r.fuel == 0 {
		return api.ErrFuel
	}
	r.fuel--
	return api.OK
}

// ask: an asking of one argument.
func ask[A, T any](r *run, call func(of A) (T, api.Errno), of A) (T, api.Errno) {
	if code := r.spend(); code != api.OK {
		var none T
		return none, code
	}
	return call(of)
}

// row: a value for each variable, by its place; those that are not bound yet are null.
type row = []api.Val

// query: the parts, one behind the other, from one row without variables on.
func (r *run) query(parts []part) ([]row, api.Errno) {
	rows := []row{nil}
	for _, p := range parts {
		var code api.Errno
		if rows, code = p.do(r, rows); code != api.OK {
			return nil, code
		}
	}
	return rows, api.OK
}

// part: a part of a query. What it does with its rows, and what it makes of them, stands in function fields.
type part struct {
	width   int // how many variables its rows have at its end
	matches []match
	actions []action
	give    func(r *run, rows []row) ([]row, api.Errno)
}

func (p part) do(r *run, rows []row) ([]row, api.Errno) {
	rows = widened(rows, p.width)
	for _, m := range p.matches {
		var code api.Errno
		if rows, code = m.solve(r, rows); code != api.OK {
			return nil, code
		}
	}
	for _, act := range p.actions {
		for _, x := range rows {
			if code := act(r, x); code != api.OK {
				return nil, code
			}
		}
	}
	return p.give(r, rows)
}

// widened: the rows with room for as many variables.
func widened(rows []row, width int) []row {
	var out []row
	for _, x := range rows {
		wide := make(row, width)
		copy(wide, x)
		out = append(out, wide)
	}
	return out
}

// givesNothing: what a part does with its rows that ends without return.
func givesNothing(*run, []row) ([]row, api.Errno) { return nil, api.OK }

// holds: is the condition true in the row?
func (r *run) holds(condition worth, x row) (bool, api.Errno) {
	v, code := condition(r, x)
	if code != api.OK {
		return false, code
	}
	return isTrue(v)
}

// isTrue: is what a condition is worth true? Null is as good as false; what is no bool is no condition.
func isTrue(v api.Val) (bool, api.Errno) {
	switch v.Kind {
	case api.KNull:
		return false, api.OK
	case api.KBool:
		return v.A == 1, api.OK
	}
	return false, api.ErrKind
}

// each: what each of the list becomes, in order; the first error ends it.
func each[T, U any](list []T, become func(T) (U, api.Errno)) ([]U, api.Errno) {
	out := make([]U, 0, len(list))
	for _, x := range list {
		one, code := become(x)
		if code != api.OK {
			return nil, code
		}
		out = append(out, one)
	}
	return out, api.OK
}

// values: what the expressions are worth in the row.
func (r *run) values(of []worth, x row) ([]api.Val, api.Errno) {
	return each(of, func(w worth) (api.Val, api.Errno) { return w(r, x) })
}

// pair: a key of a pattern, and what its value is worth.
type pair struct {
	key string
	val worth
}

// wanted: the pairs with their values in the row.
func (r *run) wanted(pairs []pair, x row) ([]api.Prop, api.Errno) {
	return each(pairs, func(p pair) (api.Prop, api.Errno) {
		v, code := p.val(r, x)
		return api.Prop{Key: p.key, Val: v}, code
	})
}

// candidates: the nodes among which one with that label and these properties is to be sought.
func (r *run) candidates(label string, props []api.Prop) ([]int64, api.Errno) {
	if label == "" || len(props) == 0 {
		return ask(r, r.space.Nodes, label)
	}
	if code := r.spend(); code != api.OK {
		return nil, code
	}
	return r.space.Find(label, props[0].Key, props[0].Val)
}

// lead: an edge of a node; back: it is gone along from its end to its beginning.
type lead struct {
	edge int64
	back bool
}

// leads: the edges of a node, in a direction.
func (r *run) leads(node int64, dir int) ([]lead, api.Errno) {
	var out []lead
	var outward []int64
	if dir != api.DIn {
		var code api.Errno
		if outward, code = ask(r, r.space.Out, node); code != api.OK {
			return nil, code
		}
		for _, e := range outward {
			out = append(out, lead{edge: e})
		}
	}
	if dir == api.DOut {
		return out, api.OK
	}
	inward, code := ask(r, r.space.In, node)
	if code != api.OK {
		return nil, code
	}
	for _, e := range without(inward, outward) {
		out = append(out, lead{edge: e, back: true})
	}
	return out, api.OK
}

// without: those of the ids that do not stand in the others.
func without(ids, others []int64) []int64 {
	there := make(map[int64]struct{}, len(others))
	for _, id := range others {
		there[id] = struct{}{}
	}
	return slices.DeleteFunc(ids, func(id int64) bool {
		_, found := there[id]
		return found
	})
}
