package index_test

import (
	"bytes"
	"encoding/binary"
	"fmt"
	"math"
	"math/rand/v2"
	"slices"
	"testing"

	"trellis/api"
	"trellis/index"
)

// walked: a second reckoning of the walk over a forest, by the words of the chapter, of at most so many keys: the keys, and what was asked, in the order in which it was.
type walked struct {
	f     *forest
	lo    api.Key
	hi    api.Key
	most  int
	keys  []api.Key
	asked []string
	code  api.Errno
}

// reckoned: the walk; the forest is not asked.
func reckoned(f *forest, lo, hi api.Key, most int) *walked {
	w := &walked{f: f, lo: lo, hi: hi, most: most, asked: []string{"root 0", "root 2"}}
	switch {
	case f.rootCodes[0] != api.OK:
		w.asked, w.code = w.asked[:1], f.rootCodes[0]
	case f.rootCodes[2] != api.OK:
		w.code = f.rootCodes[2]
	case f.roots[0] == 0:
	case f.roots[2] < 1 || f.roots[2] > 8:
		w.code = api.ErrIndexForm
	case bytes.Compare(lo[:], hi[:]) < 0:
		w.visit(f.roots[0], 1)
	}
	return w
}

func (w *walked) done() bool { return w.code != api.OK || len(w.keys) == w.most }

func (w *walked) visit(id int64, depth int64) {
	if w.done() {
		return
	}
	w.asked = append(w.asked, fmt.Sprint("get ", id))
	w.code = w.f.codes[id]
	if w.done() {
		return
	}
	rec := w.f.records[id]
	mark := byte(2)
	if depth == w.f.roots[2] {
		mark = 1
	}
	w.code = api.ErrIndexForm
	if len(rec) != 118 || rec[0] != mark || rec[1] == 0 || rec[1] > 4 {
		return
	}
	key := func(i int) []byte { return rec[2+24*i : 26+24*i] }
	count := int(rec[1])
	for i := 1; i < count; i++ {
		if bytes.Compare(key(i-1), key(i)) >= 0 {
			return
		}
	}
	w.code = api.OK
	if mark == 1 {
		for i := range count {
			if bytes.Compare(key(i), w.lo[:]) >= 0 && bytes.Compare(key(i), w.hi[:]) < 0 && !w.done() {
				w.keys = append(w.keys, api.Key(key(i)))
			}
		}
		return
	}
	for i := range count + 1 {
		if i > 0 && bytes.Compare(key(i-1), w.hi[:]) >= 0 || i < count && bytes.Compare(key(i), w.lo[:]) <= 0 {
			continue
		}
		w.visit(int64(binary.BigEndian.Uint32(rec[98+4*i:])), depth+1)
	}
}

// asReckoned: Scan, and Walk with one who stops behind so many keys, give what the second reckoning gives, and ask for the same.
func asReckoned(t *testing.T, f *forest, lo, hi api.Key, most int) {
	t.Helper()
	f.asked = nil
	w := reckoned(f, lo, hi, most)
	got, code := index.Scan(f, lo, hi, most)
	want := w.keys
	if w.code != api.OK {
		want = nil
	}
	if code != w.code || !slices.Equal(got, want) {
		t.Errorf("Scan(% x, % x, %d) = % x, %d, want % x, %d", lo, hi, most, got, code, want, w.code)
	}
	f.asks(t, w.asked...)
	if most == 0 {
		return
	}
	var given []api.Key
	for k := range index.Walk(f, lo, hi) {
		given = append(given, k)
		if len(given) == most {
			break
		}
	}
	if !slices.Equal(given, w.keys) {
		t.Errorf("Walk(% x, % x) gives % x, want % x", lo, hi, given, w.keys)
	}
	f.asks(t, w.asked...)
}

// odd: a tree that is not valid, though its nodes are sound: keys at the wrong places, a record that is met more than once, nodes with one key.
const odd = "9[50 100](7[20](1[60 70] 2[5 200]) 8[120](3[20] 1[60 70]) 7[20](1[60 70] 2[5 200]))"

// edges: keys at which a walk over the trees of these tests may begin and end.
func edges() []api.Key {
	out := []api.Key{low, high, {0: 1}, {22: 1}}
	for _, x := range []int{1, 2, 9, 10, 19, 20, 21, 30, 31, 40, 50, 60, 69, 80, 81, 99, 100, 101, 120, 141, 199, 200, 220, 239, 241, 242} {
		out = append(out, K(x))
	}
	return out
}

// TestP604Walk, of P605 too: each walk over each of these trees, all of it and some of it.
func TestP604Walk(t *testing.T) {
	for _, text := range []string{"", "1[10]", "7[1 2 3 4]", two, three, odd} {
		f := forestOf(t, text)
		for _, lo := range edges() {
			for _, hi := range edges() {
				for _, most := range []int{0, 1, 2, 3, 5, math.MaxInt} {
					asReckoned(t, f, lo, hi, most)
				}
			}
		}
	}
}

// TestP604Unread, of P605 too: each node of a tree is one that cannot be read, in each way.
func TestP604Unread(t *testing.T) {
	for name, spoil := range unread() {
		t.Run(name, func(t *testing.T) {
			for id := int64(1); id <= 6; id++ {
				f := fours(t)
				for leaf := int64(1); leaf <= 5; leaf++ {
					f.records[leaf] = leafOf(keys(10, 20, 30, 40)...)
				}
				spoil(f, id)
				for _, lo := range keys(0, 10, 15, 30, 40) {
					for _, hi := range keys(5, 10, 20, 35, 90) {
						for most := range 9 {
							asReckoned(t, f, lo, hi, most)
						}
					}
				}
			}
		})
	}
}

// TestP604Numbers, of P605 too: those of the root page are looked at first, also where no node is read.
func TestP604Numbers(t *testing.T) {
	spans := func(f *forest) {
		t.Helper()
		for _, most := range []int{0, 1, 9} {
			asReckoned(t, f, low, high, most)
			asReckoned(t, f, high, low, most)
			asReckoned(t, f, low, low, most)
		}
	}
	for _, height := range badHeights {
		for _, root := range []int64{0, 4, 5, -1, math.MinInt64} {
			f := forestOf(t, two)
			f.roots[0], f.roots[2] = root, height
			spans(f)
		}
	}
	for _, code := range []api.Errno{api.ErrArg, api.ErrPower, api.ErrClosed, api.ErrSlotId, 999} {
		for i := range 3 {
			f := forestOf(t, two)
			f.rootCodes[i] = code
			spans(f)
			f.roots = [8]int64{}
			spans(f)
		}
	}
}

// TestP604Negative: a number of keys below 0 is told ahead of all else.
func TestP604Negative(t *testing.T) {
	for _, most := range []int{-1, -2, math.MinInt} {
		f := forestOf(t, two)
		unscanned(t, f, low, high, most, api.ErrArg)
		f.rootCodes[0] = api.ErrPower
		unscanned(t, f, low, high, most, api.ErrArg)
		f.asks(t)
	}
}

// TestP604New: the list is new memory each time, and the records are not changed.
func TestP604New(t *testing.T) {
	f := forestOf(t, two)
	first, _ := index.Scan(f, low, high, 9)
	for i := range first {
		first[i] = api.Key{5: 5}
	}
	first = append(first[:2], first[:cap(first)-2]...)
	scans(t, f, low, high, 9, keys(10, 20, 30, 50, 60, 70, 80)...)
	if g := forestOf(t, two); fmt.Sprint(f.records) != fmt.Sprint(g.records) {
		t.Errorf("the records are %v, they were %v", f.records, g.records)
	}
}

// TestP604Wild, of P605 and P608 too: over records of any bytes the calls end; the reading ones give what the second reckoning gives.
func TestP604Wild(t *testing.T) {
	r := rand.New(rand.NewPCG(6, 4))
	for range 3000 {
		f := wild(r)
		for range 4 {
			lo, hi := K(r.IntN(14)), K(r.IntN(14))
			asReckoned(t, f, lo, hi, []int{0, 1, 2, 7, 50}[r.IntN(5)])
		}
	}
}

// wild: a forest of few records, most of them sound somewhere, with kids and keys of any sort.
func wild(r *rand.Rand) *forest {
	f := &forest{records: map[int64][]byte{}, codes: map[int64]api.Errno{}}
	f.roots = [8]int64{r.Int64N(9), r.Int64N(30), r.Int64N(5)}
	for id := int64(1); id <= 8; id++ {
		if r.IntN(20) > 0 {
			f.records[id] = wildNode(r)
		}
	}
	return f
}

func wildNode(r *rand.Rand) []byte {
	var xs []int
	for x := range 12 {
		if r.IntN(4) == 0 && len(xs) < 4 {
			xs = append(xs, x+1)
		}
	}
	if len(xs) == 0 {
		xs = []int{6}
	}
	rec := leafOf(keys(xs...)...)
	if r.IntN(3) > 0 {
		var kids []int64
		for range len(xs) + 1 {
			kids = append(kids, 1+r.Int64N(8))
		}
		rec = innerOf(keys(xs...), kids...)
	}
	if r.IntN(12) == 0 {
		rec[r.IntN(len(rec))] = byte(r.IntN(256))
	}
	return rec
}

// TestP605Anew: it begins anew, over what is there then, each time that it is ranged over.
func TestP605Anew(t *testing.T) {
	b := batch(t, 30)
	walk := index.Walk(b, K(10), K(20))
	if got := slices.Collect(walk); len(got) != 0 {
		t.Errorf("an empty index gives % x", got)
	}
	want := []api.Key(nil)
	for i := range 12 {
		inserts(t, b, 8+i)
		if i >= 2 {
			want = append(want, K(8+i))
		}
		for range 2 {
			if got := slices.Collect(walk); !slices.Equal(got, want) {
				t.Errorf("Walk gives % x, want % x", got, want)
			}
		}
		for range walk { // one who stops at the first changes nothing
			break
		}
	}
	for k := range walk { // two that range at one time
		var inner []api.Key
		for k := range walk {
			inner = append(inner, k)
		}
		if !slices.Equal(inner, want) {
			t.Errorf("beside % x, Walk gives % x, want % x", k, inner, want)
		}
	}
	wants(t, "Drop", b.Drop(), api.OK)
	if got := slices.Collect(walk); len(got) != 0 {
		t.Errorf("a batch that has ended gives % x", got)
	}
}

// TestP605Lazy: nothing is asked ahead of the ranging, and a node only when it is its turn.
func TestP605Lazy(t *testing.T) {
	f := forestOf(t, three)
	walk := index.Walk(f, K(21), K(220))
	f.asks(t)
	reads := [][]string{
		{"root 0", "root 2", "get 20", "get 10", "get 2"}, {"get 3"}, nil,
		{"get 11", "get 4"}, nil, {"get 5"}, nil, {"get 6"}, nil,
		{"get 12", "get 7"}, nil,
	}
	i := 0
	for k := range walk {
		if want := K([]int{21, 41, 42, 100, 101, 120, 121, 140, 141, 200, 201}[i]); k != want {
			t.Errorf("Walk gives % x, want % x", k, want)
		}
		f.asks(t, reads[i]...)
		i++
	}
	if i != len(reads) {
		t.Errorf("Walk gives %d keys", i)
	}
	f.asks(t)
	for range walk {
		break
	}
	f.asks(t, reads[0]...)
}

// TestP605Changing: the tree is changed while somebody ranges over it: it ends.
func TestP605Changing(t *testing.T) {
	for _, call := range []func(b int, x int) int{
		func(at, x int) int { return x + 1 },
		func(at, x int) int { return 3 * at },
		func(at, x int) int { return 300 - x },
	} {
		b := batch(t, 200)
		for i := range 60 {
			inserts(t, b, 5*i)
		}
		at := 0
		for k := range index.Walk(b, low, high) {
			x := call(at, int(k[22])<<8|int(k[23]))
			if at%2 == 0 {
				index.Insert(b, K(max(0, x)))
			} else {
				index.Delete(b, K(max(0, x)))
			}
			at++
		}
		if at > 1000 {
			t.Errorf("Walk gives %d keys", at)
		}
		sound(t, b)
	}
}
