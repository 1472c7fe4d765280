package gate

import "math"

// sweeper: the number of the one that is no transaction, and always there.
const sweeper = 0

// turn: one that has turns: a transaction that is inside, or the sweeper.
type turn struct {
	id    int
	stamp int64
	last  int64 // the clock when it entered, or behind the turn that it had last
}

// turns: whose turn it is: a heap of those inside and the sweeper, the first one first.
type turns struct {
	clock int64  // how many turns there were
	heap  []turn // none stands ahead of the one at (i - 1) / 2, if i is its place
}

// newTurns: the sweeper alone. Its stamp is behind all that are ever given, since it comes behind all others of the same last turn.
func newTurns() turns {
	return turns{heap: []turn{{id: sweeper, stamp: math.MaxInt64}}}
}

// next: the one whose turn it is.
func (t *turns) next() int {
	return t.heap[0].id
}

// enter: one more has turns from now on.
func (t *turns) enter(id int, stamp int64) {
	t.heap = append(t.heap, turn{id: id, stamp: stamp, last: t.clock})
	t.rise(len(t.heap) - 1)
}

// leave: one of them has no turns any longer.
func (t *turns) leave(id int) {
	i, last := t.find(id), len(t.heap)-1
	t.heap[i] = t.heap[last]
	t.heap = t.heap[:last]
	if i < last { // the one that was last may belong to either side of its new place
		t.rise(i)
		t.sink(i)
	}
}

// picked: one of them had its turn now, and stands behind all others with it.
func (t *turns) picked(id int) {
	t.clock++
	i := t.find(id)
	t.heap[i].last = t.clock
	t.sink(i)
}

// find: the place of one that is there.
func (t *turns) find(id int) int {
	i := 0
	for t.heap[i].id != id {
		i++
	}
	return i
}

// isAhead: has the one at i its turn ahead of the one at j?
func (t *turns) isAhead(i, j int) bool {
	a, b := t.heap[i], t.heap[j]
	if a.last != b.last {
		return a.last < b.last
	}
	return a.stamp < b.stamp
}

// rise: the one at i moves towards the front, as far as it is ahead of others.
func (t *turns) rise(i int) {
	for i > 0 {
		up := (i - 1) / 2
		if !t.isAhead(i, up) {
			return
		}
		t.heap[i], t.heap[up] = t.heap[up], t.heap[i]
		i = up
	}
}

// sink: the one at i moves away from the front, as far as others are ahead of it.
func (t *turns) sink(i int) {
	for {
		down := 2*i + 1
		if down >= len(t.heap) {
			return
		}
		if down+1 < len(t.heap) && t.isAhead(down+1, down) {
			down++
		}
		if !t.isAhead(down, i) {
			return
		}
		t.heap[i], t.heap[down] = t.heap[down], t.heap[i]
		i = down
	}
}
