package space

import (
	"maps"
	"slices"

	"trellis/api"
)

// table: the nodes, or the edges, of a graph in memory.
type table struct {
	missing api.Errno // what tells that there is none of an id
	ids     []int64   // rising
	things  map[int64]thing
}

// tableOf: a table without anything.
func tableOf(missing api.Errno) table {
	return table{missing: missing, things: map[int64]thing{}}
}

// lacks: the error, if one of the ids is not there.
func (t table) lacks(ids ...int64) api.Errno {
	for _, id := range ids {
		if _, there := t.things[id]; !there {
			return t.missing
		}
	}
	return api.OK
}

// where: the ids of those for which it is so, rising.
func (t table) where(is func(thing) bool) []int64 {
	var out []int64
	for _, id := range t.ids {
		if is(t.things[id]) {
			out = append(out, id)
		}
	}
	return out
}

// behind: what the sets change, as it is behind them.
func (t table) behind(sets []api.PropSet) map[int64]thing {
	patches := map[int64]patch{}
	for _, s := range sets {
		if patches[s.Id] == nil {
			patches[s.Id] = patch{}
		}
		patches[s.Id][s.Key] = s.Val
	}
	out := map[int64]thing{}
	for id, p := range patches {
		x := t.things[id]
		x.props = p.over(x.props)
		out[id] = x
	}
	return out
}

// crowded: the error, if one would have too many properties behind the sets.
func (t table) crowded(sets []api.PropSet) api.Errno {
	for _, x := range t.behind(sets) {
		if len(x.props) > api.MaxProps {
			return api.ErrProps
		}
	}
	return api.OK
}

// free: the n least ids from 1 on that nothing has.
func (t table) free(n int) []int64 {
	var out []int64
	for id := int64(1); len(out) < n; id++ {
		if _, taken := t.things[id]; !taken {
			out = append(out, id)
		}
	}
	return out
}

// change: these go, those get other properties, new ones come; the ids that the new ones got.
func (t *table) change(gone []int64, sets []api.PropSet, fresh []thing) []int64 {
	maps.Copy(t.things, t.behind(sets))
	for _, id := range gone {
		delete(t.things, id)
	}
	got := t.free(len(fresh))
	for i, id := range got {
		t.things[id] = fresh[i]
	}
	t.ids = slices.Sorted(maps.Keys(t.things))
	return got
}

// fan: edges by the node that they leave, or by the one that they come to, as they were laid there.
type fan map[int64][]int64

// fansOf: those of all edges of a table, rising.
func fansOf(edges table) (out, in fan) {
	out, in = fan{}, fan{}
	for _, id := range edges.ids {
		e := edges.things[id]
		out[e.from] = append(out[e.from], id)
		in[e.to] = append(in[e.to], id)
	}
	return out, in
}
