package rules

import (
	"slices"

	"trellis/api"
)

// tour: a walk along ways, as deep as it goes ahead of turning back, that comes to each node once.
type tour struct {
	ways  map[int64][]int64
	taken map[int64]int // how many of a node's ways were taken, of those that it has come to
}

func newTour() tour { return tour{ways: map[int64][]int64{}, taken: map[int64]int{}} }

// lead: one more way.
func (t tour) lead(from, to int64) { t.ways[from] = append(t.ways[from], to) }

// come: has it not been at the node until now?
func (t tour) come(id int64) bool {
	_, been := t.taken[id]
	if !been {
		t.taken[id] = 0
	}
	return !been
}

// from: the nodes to which it comes from that one on, as it leaves them for good: each behind those to which it came from there.
func (t tour) from(id int64) []int64 {
	if !t.come(id) {
		return nil
	}
	var left []int64
	for path := []int64{id}; len(path) > 0; {
		at := path[len(path)-1]
		if n := t.taken[at]; n < len(t.ways[at]) {
			t.taken[at]++
			if to := t.ways[at][n]; t.come(to) {
				path = append(path, to)
			}
			continue
		}
		path = path[:len(path)-1]
		left = append(left, at)
	}
	return left
}

// ringedBy: the nodes that can be come back to along edges of that type.
func ringedBy(edges []api.Edge, of string) map[int64]struct{} {
	out := map[int64]struct{}{}
	onward, back := newTour(), newTour()
	for _, e := range edges {
		if e.Type != of {
			continue
		}
		onward.lead(e.From, e.To)
		back.lead(e.To, e.From)
		if e.From == e.To {
			out[e.From] = struct{}{}
		}
	}
	var left []int64
	for _, e := range edges {
		if e.Type == of {
			left = append(left, onward.from(e.From)...)
		}
	}
	// Against the ways, from the node that was left last on, a tour comes just to those of the same rings.
	for _, id := range slices.Backward(left) {
		ring := back.from(id)
		if len(ring) < 2 {
			continue
		}
		for _, at := range ring {
			out[at] = struct{}{}
		}
	}
	return out
}
