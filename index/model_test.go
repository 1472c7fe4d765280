package index_test

import (
	"fmt"
	"math/rand/v2"
	"slices"
	"testing"

	"trellis/api"
	"trellis/index"
	"trellis/slots"
)

// book: a second reckoning of the index: a tree in memory, changed from the root down and back, whose records have the least free numbers.
type book struct {
	root *shoot
	used map[int64]bool
	set  map[int]bool
	room int
}

// shoot: a node of it.
type shoot struct {
	id   int64
	keys []int
	kids []*shoot
}

func newBook(room int) *book {
	return &book{used: map[int64]bool{}, set: map[int]bool{}, room: room}
}

func (b *book) take() int64 {
	id := int64(1)
	for b.used[id] {
		id++
	}
	b.used[id] = true
	return id
}

func (s *shoot) String() string {
	out := fmt.Sprint(s.id) + fmt.Sprint(s.keys)
	for i, kid := range s.kids {
		out += []string{"(", " "}[min(i, 1)] + kid.String()
	}
	if s.kids != nil {
		out += ")"
	}
	return out
}

func (b *book) String() string {
	if b.root == nil {
		return ""
	}
	return b.root.String()
}

// under: which kid is the one for x.
func (s *shoot) under(x int) int {
	n := 0
	for _, k := range s.keys {
		if k <= x {
			n++
		}
	}
	return n
}

func (b *book) insert(x int) api.Errno {
	if b.set[x] {
		return api.ErrThere
	}
	if len(b.set) >= b.room {
		return api.ErrIndexFull
	}
	b.set[x] = true
	if b.root == nil {
		b.root = &shoot{id: b.take(), keys: []int{x}}
		return api.OK
	}
	if right, key := b.insertAt(b.root, x); right != nil {
		b.root = &shoot{id: b.take(), keys: []int{key}, kids: []*shoot{b.root, right}}
	}
	return api.OK
}

// insertAt: what was split off to the right, and the key for the parent.
func (b *book) insertAt(s *shoot, x int) (*shoot, int) {
	at := s.under(x)
	if s.kids == nil {
		s.keys = slices.Insert(s.keys, at, x)
		if len(s.keys) < 5 {
			return nil, 0
		}
		right := &shoot{id: b.take(), keys: []int{s.keys[3], s.keys[4]}}
		s.keys = []int{s.keys[0], s.keys[1], s.keys[2]}
		return right, right.keys[0]
	}
	kid, key := b.insertAt(s.kids[at], x)
	if kid == nil {
		return nil, 0
	}
	s.keys, s.kids = slices.Insert(s.keys, at, key), slices.Insert(s.kids, at+1, kid)
	if len(s.keys) < 5 {
		return nil, 0
	}
	third := s.keys[2]
	right := &shoot{id: b.take(), keys: []int{s.keys[3], s.keys[4]}, kids: []*shoot{s.kids[3], s.kids[4], s.kids[5]}}
	s.keys, s.kids = []int{s.keys[0], s.keys[1]}, []*shoot{s.kids[0], s.kids[1], s.kids[2]}
	return right, third
}

func (b *book) delete(x int) api.Errno {
	if !b.set[x] {
		return api.ErrAbsent
	}
	delete(b.set, x)
	b.deleteAt(b.root, x)
	if len(b.root.keys) == 0 {
		b.used[b.root.id] = false
		kids := b.root.kids
		b.root = nil
		if kids != nil {
			b.root = kids[0]
		}
	}
	return api.OK
}

func (b *book) deleteAt(s *shoot, x int) {
	at := s.under(x)
	if s.kids == nil {
		s.keys = slices.Delete(s.keys, at-1, at)
		return
	}
	b.deleteAt(s.kids[at], x)
	if len(s.kids[at].keys) < 2 {
		b.mend(s, at)
	}
}

// mend: kid at of s has one key alone. What two neighbours have is laid in one row (inner nodes: with the key between), and cut anew.
func (b *book) mend(s *shoot, at int) {
	spare := func(i int) bool { return i >= 0 && i < len(s.kids) && len(s.kids[i].keys) >= 3 }
	switch {
	case spare(at - 1):
		b.share(s, at-1, len(s.kids[at-1].keys)-1)
	case spare(at + 1):
		b.share(s, at, 2)
	case at > 0:
		b.unite(s, at-1)
	default:
		b.unite(s, 0)
	}
}

// row: the keys and kids of the kids i and i + 1 of s, in one row.
func (s *shoot) row(i int) ([]int, []*shoot) {
	l, r := s.kids[i], s.kids[i+1]
	ks := slices.Clone(l.keys)
	if l.kids != nil {
		ks = append(ks, s.keys[i])
	}
	return append(ks, r.keys...), slices.Concat(l.kids, r.kids)
}

// share: the left one of the two has so many keys then.
func (b *book) share(s *shoot, i, left int) {
	ks, kids := s.row(i)
	l, r := s.kids[i], s.kids[i+1]
	if l.kids == nil {
		l.keys, r.keys = slices.Clone(ks[:left]), slices.Clone(ks[left:])
		s.keys[i] = ks[left]
		return
	}
	l.keys, r.keys = slices.Clone(ks[:left]), slices.Clone(ks[left+1:])
	l.kids, r.kids = slices.Clone(kids[:left+1]), slices.Clone(kids[left+1:])
	s.keys[i] = ks[left]
}

// unite: the left one has all.
func (b *book) unite(s *shoot, i int) {
	s.kids[i].keys, s.kids[i].kids = s.row(i)
	b.used[s.kids[i+1].id] = false
	s.keys, s.kids = slices.Delete(s.keys, i, i+1), slices.Delete(s.kids, i+1, i+2)
}

// keys: those of the set, rising.
func (b *book) keys() []api.Key {
	var xs []int
	for x := range b.set {
		xs = append(xs, x)
	}
	slices.Sort(xs)
	return keys(xs...)
}

// inStep: is the index what the book says: its tree, record by record, its keys, its numbers?
func inStep(t *testing.T, r reader, b *book) {
	t.Helper()
	got := grown(t, r)
	if got != b.String() {
		t.Fatalf("the tree is %s, want %s", got, b)
	}
	valid(t, got)
	height, _ := index.Height(r)
	counts(t, r, len(b.set), height)
	flat(t, len(b.set), height)
	walks(t, r, low, high, b.keys()...)
}

// flat: is that a height that the chapter allows for n keys?
func flat(t *testing.T, n, height int) {
	t.Helper()
	most := min(n, 1)
	for h, least := 2, 4; least <= n; h, least = h+1, 3*least {
		most = h
	}
	if height > most || height < min(n, 1) {
		t.Errorf("%d keys, and the height is %d, want at most %d", n, height, most)
	}
}

// act: one Insert or Delete of the index and of the book.
func act(t *testing.T, b *slots.Batch, second *book, grow bool, x int) {
	t.Helper()
	if grow {
		if code, want := index.Insert(b, K(x)), second.insert(x); code != want {
			t.Fatalf("Insert(%d) = %d, want %d", x, code, want)
		}
	} else {
		if code, want := index.Delete(b, K(x)), second.delete(x); code != want {
			t.Fatalf("Delete(%d) = %d, want %d", x, code, want)
		}
	}
}

// TestP609Random, of P606, P607 and P610 too: scripts of calls that grow the tree, and shrink it, by turns.
func TestP609Random(t *testing.T) {
	r := rand.New(rand.NewPCG(6, 9))
	for range 30 {
		room := 1 + r.IntN(120)
		b, second := batch(t, room), newBook(room)
		span := 1 + r.IntN(2*room)
		for range 6 {
			share := r.IntN(11)
			for range 40 {
				act(t, b, second, r.IntN(10) < share, r.IntN(span))
				inStep(t, b, second)
			}
			x := r.IntN(span)
			has(t, b, K(x), second.set[x])
		}
	}
}

// TestP609Orders: each order of inserting some keys, and of deleting them.
func TestP609Orders(t *testing.T) {
	_, s, b := made(t, 12)
	var order func(xs []int, rest []int, do func(xs []int))
	order = func(xs []int, rest []int, do func(xs []int)) {
		if len(rest) == 0 {
			do(xs)
		}
		for i := range rest {
			order(append(slices.Clone(xs), rest[i]), slices.Delete(slices.Clone(rest), i, i+1), do)
		}
	}
	order(nil, []int{1, 2, 3, 4, 5, 6}, func(xs []int) {
		wants(t, "Drop", b.Drop(), api.OK)
		b = begins(t, s)
		second := newBook(12)
		for _, x := range xs {
			act(t, b, second, true, x)
		}
		inStep(t, b, second)
		for i := range xs {
			act(t, b, second, false, xs[(5*i+xs[0])%6])
			inStep(t, b, second)
		}
	})
}

// TestP610Great: as many keys as a store can have at all, in three orders; the tree is valid and flat all the way up and down.
func TestP610Great(t *testing.T) {
	const n = 1020
	for _, by := range []int{1, n - 1, 367} {
		b, second := batch(t, n), newBook(n)
		for i := range n {
			act(t, b, second, true, i*by%n)
			if i%60 == 0 {
				inStep(t, b, second)
			}
		}
		inStep(t, b, second)
		uninserted(t, b, n, api.ErrIndexFull)
		for i := range n {
			act(t, b, second, false, i*611%n)
			if i%60 == 0 {
				inStep(t, b, second)
			}
		}
		grows(t, b, "")
	}
}
