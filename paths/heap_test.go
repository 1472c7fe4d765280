package paths_test

import (
	"math/rand"
	"slices"
	"testing"

	"trellis/paths"
)

// card: what has a rank, and a name that no order looks at.
type card struct{ rank, name int }

func byRank(a, b card) bool { return a.rank < b.rank }

// deck: a heap, reckoned a second time: what was pushed, in that order.
type deck []card

// pop: the first of those with the least rank.
func (d *deck) pop() (card, bool) {
	if len(*d) == 0 {
		return card{}, false
	}
	first := slices.MinFunc(*d, func(a, b card) int { return a.rank - b.rank })
	at := slices.Index(*d, first)
	*d = slices.Delete(*d, at, at+1)
	return first, true
}

// pops: the next Pop must answer so.
func pops[T any](t *testing.T, h *paths.Heap[T], want T, found bool) {
	t.Helper()
	x, ok := h.Pop()
	same(t, "Pop()", []any{x, ok}, []any{want, found})
}

func TestP902Nil(t *testing.T) {
	h := paths.NewHeap[card](nil)
	if h != nil {
		t.Error("NewHeap(nil) is a heap")
	}
	h.Push(card{1, 1})
	pops(t, h, card{}, false)
	same(t, "Len()", h.Len(), 0)
	var texts *paths.Heap[string]
	texts.Push("a")
	pops(t, texts, "", false)
	same(t, "Len()", texts.Len(), 0)
}

func TestP902Empty(t *testing.T) {
	h := paths.NewHeap(byRank)
	for range 3 {
		same(t, "Len()", h.Len(), 0)
		pops(t, h, card{}, false)
		h.Push(card{5, 1})
		same(t, "Len()", h.Len(), 1)
		pops(t, h, card{5, 1}, true)
		pops(t, h, card{}, false)
	}
}

// TestP902EqualOnes: those that are as great come out as they were pushed, also when others came and went in between.
func TestP902EqualOnes(t *testing.T) {
	h := paths.NewHeap(byRank)
	for i := range 100 {
		h.Push(card{7, i})
		h.Push(card{1, i})
		pops(t, h, card{1, i}, true)
	}
	for i := range 50 {
		pops(t, h, card{7, i}, true)
	}
	for i := range 50 {
		h.Push(card{7, 100 + i})
	}
	for i := range 100 {
		pops(t, h, card{7, 50 + i}, true)
	}
	pops(t, h, card{}, false)
	for range 3 {
		h.Push(card{2, 2})
	}
	same(t, "Len()", h.Len(), 3)
	for range 3 {
		pops(t, h, card{2, 2}, true)
	}
}

// TestP902AllShort: all lists of up to six ranks out of three, pushed, and then popped.
func TestP902AllShort(t *testing.T) {
	for n, many := 0, 1; n <= 6; n, many = n+1, 3*many {
		for code := range many {
			h := paths.NewHeap(byRank)
			var d deck
			for i := range n {
				x := card{code % 3, i}
				code /= 3
				h.Push(x)
				d = append(d, x)
			}
			for range n + 1 {
				want, ok := d.pop()
				pops(t, h, want, ok)
			}
		}
	}
}

// TestP902Drawn: drawn scripts, against the second reckoning.
func TestP902Drawn(t *testing.T) {
	for seed := range int64(200) {
		r := rand.New(rand.NewSource(900 + seed))
		h := paths.NewHeap(byRank)
		var d deck
		ranks, bias := 1+r.Intn(40), 2+r.Intn(4)
		for i := range 400 {
			if r.Intn(6) < bias {
				x := card{r.Intn(ranks) - ranks/2, i}
				h.Push(x)
				d = append(d, x)
			} else {
				want, ok := d.pop()
				pops(t, h, want, ok)
			}
			same(t, "Len()", h.Len(), len(d))
		}
		for len(d) > 0 {
			want, ok := d.pop()
			pops(t, h, want, ok)
		}
		same(t, "Len() at last", h.Len(), 0)
	}
}

// TestP902NoOrder: by a function that is no order, too, each that was pushed comes out once.
func TestP902NoOrder(t *testing.T) {
	r := rand.New(rand.NewSource(9))
	for name, less := range map[string]func(a, b int) bool{
		"always": func(a, b int) bool { return true },
		"never":  func(a, b int) bool { return false },
		"upTo":   func(a, b int) bool { return a <= b },
		"round":  func(a, b int) bool { return (b-a+300)%3 == 1 },
		"drawn":  func(a, b int) bool { return r.Intn(2) == 0 },
	} {
		h := paths.NewHeap(less)
		var in, out []int
		for i := range 300 {
			h.Push(i)
			in = append(in, i)
			if i%3 == 0 {
				x, _ := h.Pop()
				out = append(out, x)
			}
		}
		for x, ok := h.Pop(); ok; x, ok = h.Pop() {
			out = append(out, x)
		}
		slices.Sort(out)
		same(t, "what came out by "+name, out, in)
	}
}

// TestP902Many: a heap takes as many as are pushed.
func TestP902Many(t *testing.T) {
	const many = 200003
	h := paths.NewHeap(func(a, b int) bool { return a < b })
	for i := range many {
		h.Push(i * 7919 % many)
	}
	same(t, "Len()", h.Len(), many)
	for want := range many {
		if x, ok := h.Pop(); !ok || x != want {
			t.Fatalf("Pop() = %d, %v, want %d", x, ok, want)
		}
	}
	pops(t, h, 0, false)
}

// TestP902Apart: two heaps know nothing of each other, and each has its own order.
func TestP902Apart(t *testing.T) {
	up := paths.NewHeap(func(a, b string) bool { return a < b })
	down := paths.NewHeap(func(a, b string) bool { return a > b })
	for _, x := range []string{"b", "c", "a"} {
		up.Push(x)
		down.Push(x)
	}
	pops(t, up, "a", true)
	pops(t, down, "c", true)
	pops(t, up, "b", true)
	same(t, "Len()", []int{up.Len(), down.Len()}, []int{1, 2})
}
