package space

import (
	"maps"
	"slices"

	"trellis/api"
)

// half: what a write set has changed of the nodes, or of the edges, by their ids.
type half struct {
	missing api.Errno          // what tells that it has not made one of an id
	own     map[int64]thing    // those that it has made, those that are gone among them
	gone    map[int64]struct{} // its own and the base's
	sets    map[int64]patched  // the base's
}

// patched: what was set of a node or an edge of the base. name: its label, or its type, so that the base need not be asked for it again.
type patched struct {
	name  string
	props patch
}

func newHalf(missing api.Errno) half {
	return half{missing: missing, own: map[int64]thing{}, gone: map[int64]struct{}{}, sets: map[int64]patched{}}
}

// put: now stands at the key. What it answers undoes that.
func put[K comparable, V any](m map[K]V, key K, now V) func() {
	was, there := m[key]
	m[key] = now
	return func() {
		if there {
			m[key] = was
		} else {
			delete(m, key)
		}
	}
}

// next: the id of the one that is made next.
func (h half) next() int64 { return idOfOwn(len(h.own)) }

// idOfOwn: the id of the one ahead of which n were made.
func idOfOwn(n int) int64 { return -1 - int64(n) }

// fault: why nothing of that id shows, as far as the write set knows.
func (h half) fault(id int64) api.Errno {
	if h.isGone(id) {
		return api.ErrGone
	}
	if _, made := h.own[id]; id < 0 && !made {
		return h.missing
	}
	return api.OK
}

func (h half) isGone(id int64) bool {
	_, gone := h.gone[id]
	return gone
}

// staying: those of the ids that are not gone, in new memory.
func (h half) staying(ids []int64) []int64 {
	return slices.DeleteFunc(slices.Clone(ids), h.isGone)
}

// made: its own that are not gone, in the order in which they were made.
func (h half) made() []int64 {
	var out []int64
	for i := range len(h.own) {
		out = append(out, idOfOwn(i))
	}
	return slices.DeleteFunc(out, h.isGone)
}

// lost: those of the base that are gone, rising.
func (h half) lost() []int64 {
	all := slices.Sorted(maps.Keys(h.gone))
	return slices.DeleteFunc(all, func(id int64) bool { return id < 0 })
}

// touched: has the property of one of the base been set or taken away?
func (h half) touched(id int64, key string) bool {
	_, set := h.sets[id].props[key]
	return set
}

// setTo: those of the base of that name that are not gone and whose property was set to that value, rising. (To null it is not set, but taken away.)
func (h half) setTo(name, key string, v api.Val) []int64 {
	if isNull(v) {
		return nil
	}
	var out []int64
	for id, p := range h.sets {
		if p.name == name && p.props[key] == v && !h.isGone(id) {
			out = append(out, id)
		}
	}
	slices.Sort(out)
	return out
}

// set: one gets that value of a property, or loses it (null), and shows as now then. What it answers undoes that.
func (h half) set(id int64, key string, v api.Val, now thing) []func() {
	if id < 0 {
		return []func(){put(h.own, id, now)}
	}
	var undos []func()
	if _, begun := h.sets[id]; !begun {
		undos = append(undos, put(h.sets, id, patched{name: now.name, props: patch{}}))
	}
	return append(undos, put(h.sets[id].props, key, v))
}

// told: what was set of those of the base that are not gone, by id, then by key.
func (h half) told() []api.PropSet {
	var out []api.PropSet
	for _, id := range h.staying(slices.Sorted(maps.Keys(h.sets))) {
		props := h.sets[id].props
		for _, key := range slices.Sorted(maps.Keys(props)) {
			out = append(out, api.PropSet{Id: id, Key: key, Val: props[key]})
		}
	}
	return out
}
