package paths

// Heap: the least one first, by a function of the caller's; of equal ones the one that came first.
type Heap[T any] struct {
	less  func(a, b T) bool
	items []item[T] // none stands ahead of the one at (i - 1) / 2, if i is its place
	turn  int64     // how many were ever pushed
}

// item: one that is in a heap, and when it came.
type item[T any] struct {
	of   T
	turn int64
}

// NewHeap: an empty heap.
func NewHeap[T any](less func(a, b T) bool) *Heap[T] {
	if less == nil {
		return nil
	}
	return &Heap[T]{less: less}
}

// Push: one more.
func (h *Heap[T]) Push(x T) {
	if h == nil {
		return
	}
	h.items = append(h.items, item[T]{of: x, turn: h.turn})
	h.turn++
	h.rise(len(h.items) - 1)
}

// Pop: the least one, which is no longer there; false: there is none.
func (h *Heap[T]) Pop() (T, bool) {
	if h.Len() == 0 {
		var none T
		return none, false
	}
	first, last := h.items[0], len(h.items)-1
	h.items[0] = h.items[last]
	h.items[last] = item[T]{} // what has gone is not held on to
	h.items = h.items[:last]
	h.sink(0)
	return first.of, true
}

// Len: how many there are.
func (h *Heap[T]) Len() int {
	if h == nil {
		return 0
	}
	return len(h.items)
}

// ahead: does the item at i come out ahead of the one at j?
func (h *Heap[T]) ahead(i, j int) bool {
	a, b := h.items[i], h.items[j]
	if a.turn < b.turn {
		return !h.less(b.of, a.of)
	}
	return h.less(a.of, b.of)
}

// rise: the item at i moves towards the front, as far as it stands ahead of others.
func (h *Heap[T]) rise(i int) {
	for i > 0 {
		up := (i - 1) / 2
		if !h.ahead(i, up) {
			return
		}
		h.items[i], h.items[up] = h.items[up], h.items[i]
		i = up
	}
}

// sink: the item at i moves away from the front, as far as others stand ahead of it.
func (h *Heap[T]) sink(i int) {
	for {
		down := 2*i + 1
		if down >= len(h.items) {
			return
		}
		if down+1 < len(h.items) && h.ahead(down+1, down) {
			down++
		}
		if !h.ahead(down, i) {
			return
		}
		h.items[i], h.items[down] = h.items[down], h.items[i]
		i = down
	}
}
