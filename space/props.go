package space

import (
	"slices"
	"strings"

	"trellis/api"
	"trellis/value"
)

// isNull: does the value, where a property is set, say that it is taken away?
func isNull(v api.Val) bool { return v == api.Val{} }

// canSet: is it a value that a property can be set to, or null?
func canSet(v api.Val) bool { return isNull(v) || value.Storable(v) }

// keysNamed: are all keys names?
func keysNamed(list []api.Prop) bool {
	return every(list, func(p api.Prop) bool { return value.Name(p.Key) })
}

// fit: are there no more than one node or edge may have, the keys in their order, the values storable?
func fit(list []api.Prop) bool {
	for i, p := range list {
		if i >= api.MaxProps || !value.Storable(p.Val) || i > 0 && list[i-1].Key >= p.Key {
			return false
		}
	}
	return true
}

// good: can a node or an edge have these properties?
func good(list []api.Prop) bool { return keysNamed(list) && fit(list) }

// patch: what properties are set to, or (null) that they are taken away, by key.
type patch map[string]api.Val

// over: the properties that there are behind the patch, keys rising.
func (p patch) over(list []api.Prop) []api.Prop {
	var out []api.Prop
	for _, x := range list {
		if _, set := p[x.Key]; !set {
			out = append(out, x)
		}
	}
	for key, v := range p {
		if !isNull(v) {
			out = append(out, api.Prop{Key: key, Val: v})
		}
	}
	slices.SortStableFunc(out, func(a, b api.Prop) int { return strings.Compare(a.Key, b.Key) })
	return out
}
