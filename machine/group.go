package machine

import (
	"trellis/api"
	"trellis/value"
)

// aggregate: what the rows of a group are worth together. kid: what is taken of each of them.
type aggregate struct {
	sub  int
	once bool
	kid  worth
}

// group: rows with the same keys. taken: for each of them what was taken of it, by the aggregates of all items.
type group struct {
	keys  []api.Val
	taken [][]api.Val
}

// grouped: a row of columns for each group, in the order of their first rows.
func (g given) grouped(r *run, rows []row) ([]row, api.Errno) {
	groups, code := g.groups(r, rows)
	if code != api.OK {
		return nil, code
	}
	return each(groups, func(one group) (row, api.Errno) { return g.together(r, one) })
}

// groups: without keys there is one, also without rows.
func (g given) groups(r *run, rows []row) ([]group, api.Errno) {
	keys, kids := g.keys(), g.kids()
	places := map[tuple]int{}
	var out []group
	if len(keys) == 0 {
		out = append(out, group{})
		places[tuple{}] = 0
	}
	for _, x := range rows {
		key, code := r.values(keys, x)
		if code != api.OK {
			return nil, code
		}
		taken, code := r.values(kids, x)
		if code != api.OK {
			return nil, code
		}
		at, met := places[tupleOf(key)]
		if !met {
			at = len(out)
			places[tupleOf(key)] = at
			out = append(out, group{keys: key})
		}
		out[at].taken = append(out[at].taken, taken)
	}
	return out, api.OK
}

// kids: of the aggregates of all items, in order.
func (g given) kids() []worth {
	var out []worth
	for _, i := range g.items {
		for _, a := range i.aggregates {
			out = append(out, a.kid)
		}
	}
	return out
}

// together: the row of columns of a group.
func (g given) together(r *run, of group) (row, api.Errno) {
	var cols row
	keys, first := 0, 0 // of the keys, and of the aggregates, so many were dealt with
	for _, i := range g.items {
		if len(i.aggregates) == 0 {
			cols = append(cols, of.keys[keys])
			keys++
			continue
		}
		folded, code := i.fold(of, first)
		if code != api.OK {
			return nil, code
		}
		first += len(folded)
		v, code := i.worth(r, folded)
		if code != api.OK {
			return nil, code
		}
		cols = append(cols, v)
	}
	return cols, api.OK
}

// fold: what each of the item's aggregates is worth, also those that its expression leaves out. first: the place of the first one among those of all items.
func (i item) fold(of group, first int) (row, api.Errno) {
	var out row
	for n, a := range i.aggregates {
		var vals []api.Val
		for _, taken := range of.taken {
			vals = append(vals, taken[first+n])
		}
		if a.once {
			vals = firsts(vals, func(v api.Val) api.Val { return v })
		}
		v, code := value.Fold(a.sub, vals)
		if code != api.OK {
			return nil, code
		}
		out = append(out, v)
	}
	return out, api.OK
}
