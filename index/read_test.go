package index_test

import (
	"fmt"
	"math"
	"slices"
	"testing"

	"trellis/api"
	"trellis/index"
	"trellis/slots"
)

// forest: a Getter that is laid by hand, can be made to fail, and notes what it is asked.
type forest struct {
	roots     [8]int64
	rootCodes [8]api.Errno
	records   map[int64][]byte
	codes     map[int64]api.Errno
	asked     []string
}

func (f *forest) Root(i int) (int64, api.Errno) {
	f.asked = append(f.asked, fmt.Sprint("root ", i))
	return f.roots[i], f.rootCodes[i]
}

func (f *forest) Get(kind int, id int64) ([]byte, api.Errno) {
	f.asked = append(f.asked, fmt.Sprint("get ", id))
	if kind != api.STree {
		return nil, api.ErrSlotKind
	}
	if code := f.codes[id]; code != api.OK {
		return nil, code
	}
	if rec := f.records[id]; rec != nil {
		return rec, api.OK
	}
	return nil, api.ErrSlotId
}

// forestOf: the tree of that text.
func forestOf(t *testing.T, text string) *forest {
	t.Helper()
	f := &forest{records: map[int64][]byte{}, codes: map[int64]api.Errno{}}
	if text == "" {
		return f
	}
	p, rest := planted(text)
	if rest != "" || p.String() != text {
		t.Fatalf("no tree: %q", text)
	}
	f.lay(p)
	f.roots = [8]int64{p.id, int64(p.count()), int64(p.height())}
	return f
}

func (f *forest) lay(p plant) {
	f.records[p.id] = p.record()
	for _, kid := range p.kids {
		f.lay(kid)
	}
}

// asks: has it been asked just that since it was last looked at?
func (f *forest) asks(t *testing.T, want ...string) {
	t.Helper()
	if !slices.Equal(f.asked, want) {
		t.Errorf("asked: %q, want %q", f.asked, want)
	}
	f.asked = nil
}

// looks: the numbers of the root page, then just those records.
func (f *forest) looks(t *testing.T, ids ...int64) {
	t.Helper()
	want := []string{"root 0", "root 2"}
	for _, id := range ids {
		want = append(want, fmt.Sprint("get ", id))
	}
	f.asks(t, want...)
}

// two, three: trees of those heights.
const (
	two   = "4[30 60](1[10 20] 2[30 50] 3[60 70 80])"
	three = "20[100 200](10[20 40](1[1 2] 2[20 21] 3[41 42]) 11[120 140](4[100 101] 5[120 121] 6[140 141]) 12[220 240](7[200 201] 8[220 221] 9[240 241]))"
)

func TestP602(t *testing.T) {
	for _, text := range []string{"", "1[5]", "7[1 2 3 4]", two, three} {
		b := batch(t, 30)
		lays(t, b, text)
		there := members(text)
		for x := range 256 {
			has(t, b, K(x), slices.Contains(there, x))
		}
	}
}

// TestP602Way: the nodes on the way, and no others.
func TestP602Way(t *testing.T) {
	f := forestOf(t, "")
	has(t, f, K(1), false)
	f.looks(t)
	f = forestOf(t, "7[1 2 3 4]")
	has(t, f, K(2), true)
	f.looks(t, 7)
	f = forestOf(t, three)
	for _, c := range []struct {
		x    int
		leaf int64
		want bool
	}{
		{0, 1, false}, {1, 1, true}, {19, 1, false}, {20, 2, true}, {39, 2, false},
		{40, 3, false}, {42, 3, true}, {99, 3, false}, {100, 4, true}, {119, 4, false}, {120, 5, true}, {199, 6, false},
		{200, 7, true}, {240, 9, true}, {1 << 20, 9, false},
	} {
		has(t, f, K(c.x), c.want)
		f.looks(t, 20, 10+(c.leaf-1)/3, c.leaf)
		for id := range f.records {
			if !slices.Contains([]int64{20, 10 + (c.leaf-1)/3, c.leaf}, id) {
				f.codes[id] = api.ErrPage
			}
		}
		has(t, f, K(c.x), c.want)
		f.asked = nil
		clear(f.codes)
	}
}

// TestP602Order: bytes as numbers, from the first on.
func TestP602Order(t *testing.T) {
	var ks []api.Key
	for i := range 24 {
		for _, v := range []byte{1, 127, 128, 255} {
			var k api.Key
			k[i] = v
			ks = append(ks, k)
			k[23] = 255
			ks = append(ks, k)
		}
	}
	slices.SortFunc(ks, func(a, b api.Key) int {
		for i := range a {
			if a[i] != b[i] {
				return int(a[i]) - int(b[i])
			}
		}
		return 0
	})
	ks = slices.Compact(ks)
	b := batch(t, len(ks))
	for i := range ks {
		wants(t, "Insert", index.Insert(b, ks[(i*77+5)%len(ks)]), api.OK)
	}
	walks(t, b, low, high, ks...)
	for i, k := range ks {
		has(t, b, k, true)
		k[11] ^= 64
		has(t, b, k, false)
		scans(t, b, low, ks[i], 999, ks[:i]...)
		scans(t, b, ks[i], high, 999, ks[i:]...)
	}
}

// unread: ways in which a leaf with the keys 10, 20, 30, 40, or an inner node with them, cannot be read.
func unread() map[string]func(f *forest, id int64) api.Errno {
	byteAt := func(at int, v byte) func(*forest, int64) api.Errno {
		return func(f *forest, id int64) api.Errno {
			f.records[id][at] = v
			return api.ErrIndexForm
		}
	}
	out := map[string]func(*forest, int64) api.Errno{
		"the other mark": func(f *forest, id int64) api.Errno {
			f.records[id][0] ^= 3
			return api.ErrIndexForm
		},
		"mark 0": byteAt(0, 0), "mark 3": byteAt(0, 3), "mark 255": byteAt(0, 255), "mark 129": byteAt(0, 129),
		"no keys": byteAt(1, 0), "5 keys": byteAt(1, 5), "132 keys": byteAt(1, 132), "255 keys": byteAt(1, 255),
		"key 1 as key 0": byteAt(2+24+23, 10), "key 1 below key 0": byteAt(2+24+23, 9), "key 0 above": byteAt(2, 1),
		"key 3 as key 2": byteAt(2+72+23, 30), "key 3 below key 2": byteAt(2+72+23, 29), "key 2 above key 3": byteAt(2+48, 128), "key 2 below key 1": byteAt(2+48+23, 19),
		"no record": func(f *forest, id int64) api.Errno {
			delete(f.records, id)
			return api.ErrIndexForm
		},
	}
	for _, n := range []int{0, 1, 2, 117, 119} {
		out[fmt.Sprint("a record of ", n, " bytes")] = func(f *forest, id int64) api.Errno {
			f.records[id] = append(f.records[id], 0)[:n]
			return api.ErrIndexForm
		}
	}
	for _, code := range []api.Errno{api.ErrArg, api.ErrPower, api.ErrPage, api.ErrClosed, api.ErrSlotKind, api.ErrThere, 999, -1} {
		out[fmt.Sprint("error ", code)] = func(f *forest, id int64) api.Errno {
			f.codes[id] = code
			return code
		}
	}
	return out
}

// fours: a tree each of whose nodes has the keys 10, 20, 30, 40 or such as fit below them.
func fours(t *testing.T) *forest {
	t.Helper()
	return forestOf(t, "6[10 20 30 40](1[1 2] 2[10 11] 3[20 21] 4[30 31] 5[40 41])")
}

// TestP602Unread: a leaf, an inner node, at the root and below it.
func TestP602Unread(t *testing.T) {
	for name, spoil := range unread() {
		t.Run(name, func(t *testing.T) {
			f := forestOf(t, "3[10 20 30 40]")
			want := spoil(f, 3)
			hasNot(t, f, K(10), want)
			f.looks(t, 3)

			f = fours(t)
			want = spoil(f, 6)
			hasNot(t, f, K(1), want)
			f.looks(t, 6)

			f = forestOf(t, "5[20](3[1 2] 4[20 30])")
			f.records[4] = leafOf(keys(10, 20, 30, 40)...)
			want = spoil(f, 4)
			hasNot(t, f, K(30), want)
			f.looks(t, 5, 4)
			has(t, f, K(2), true)
		})
	}
}

// TestP602NotLookedAt: what stands behind the last key, and behind the last kid; and the kids of a leaf.
func TestP602NotLookedAt(t *testing.T) {
	f := forestOf(t, "3[20](1[1 2] 2[20 30])")
	fill := func(id int64, from, to int) {
		for i := from; i < to; i++ {
			f.records[id][i] = byte(200 - i)
		}
	}
	fill(1, 50, 118)
	fill(2, 50, 118)
	fill(3, 26, 98)
	fill(3, 106, 118)
	for x := range 40 {
		has(t, f, K(x), x == 1 || x == 2 || x == 20 || x == 30)
	}
	walks(t, f, low, high, keys(1, 2, 20, 30)...)
	scans(t, f, low, high, 9, keys(1, 2, 20, 30)...)
}

// TestP602NotValid: a tree that is not valid is read all the same, as far as its nodes are sound.
func TestP602NotValid(t *testing.T) {
	f := forestOf(t, "3[20](1[50] 2[5])")
	has(t, f, K(50), false) // its way goes to the other leaf
	has(t, f, K(5), false)
	walks(t, f, low, high, keys(50, 5)...)
	walks(t, f, K(20), K(60))
	walks(t, f, K(19), K(60), keys(50)...)
	walks(t, f, K(0), K(20))
	walks(t, f, K(0), K(21), keys(5)...)

	f = forestOf(t, "1[10 20]")
	f.roots[2] = 8
	for id := int64(2); id <= 8; id++ { // each node is its own kid, and the leaf is the same one everywhere
		f.records[id] = innerOf(keys(10), id-1, id-1)
	}
	f.roots[0] = 8
	has(t, f, K(20), true)
	f.looks(t, 8, 7, 6, 5, 4, 3, 2, 1)
	walks(t, f, K(10), K(11), slices.Repeat(keys(10), 1)...)
	walks(t, f, K(9), K(21), slices.Repeat(keys(10, 20), 128)...)
	f.records[5] = innerOf(keys(10), 5, 5) // and never comes to a leaf
	hasNot(t, f, K(20), api.ErrIndexForm)
}

// TestP602Kids: an id has four bytes, the highest first, and is never below 0.
func TestP602Kids(t *testing.T) {
	for _, id := range []int64{1, 255, 256, 1 << 16, 1 << 24, 0x01020304, 1<<31 - 1, 1 << 31, 1<<32 - 1} {
		f := forestOf(t, "")
		f.roots = [8]int64{1 << 40, 1, 2}
		f.records[1<<40] = innerOf(keys(10, 20), 0, id, 1<<32-2)
		f.records[id] = leafOf(keys(10)...)
		has(t, f, K(10), true)
		f.looks(t, 1<<40, id)
		hasNot(t, f, K(9), api.ErrIndexForm)
		f.looks(t, 1<<40, 0)
		hasNot(t, f, K(20), api.ErrIndexForm)
		f.looks(t, 1<<40, 1<<32-2)
	}
}

// badHeights: those of no tree.
var badHeights = []int64{0, 9, -1, 10, 255, 257, 1<<32 + 1, math.MinInt64, math.MaxInt64}

// TestP602Numbers: those of the root page are looked at first.
func TestP602Numbers(t *testing.T) {
	for _, height := range badHeights {
		f := forestOf(t, "1[10]")
		f.roots[2] = height
		hasNot(t, f, K(10), api.ErrIndexForm)
		f.looks(t)
		f.roots[0] = 0 // empty, whatever the height is
		has(t, f, K(10), false)
		f.looks(t)
	}
	for _, root := range []int64{-1, 2, math.MinInt64, math.MaxInt64, 1<<32 + 1} {
		f := forestOf(t, "1[10]")
		f.roots[0] = root
		hasNot(t, f, K(10), api.ErrIndexForm)
		f.looks(t, root)
	}
	for height := int64(2); height <= 8; height++ { // the root is a leaf, or at the end there is none
		f := forestOf(t, "1[10]")
		f.roots[2] = height
		hasNot(t, f, K(10), api.ErrIndexForm)
		f.looks(t, 1)
		f = forestOf(t, two)
		f.roots[2] = height
		if height > 2 {
			hasNot(t, f, K(10), api.ErrIndexForm)
		}
	}
	f := forestOf(t, two)
	f.roots[2] = 1
	hasNot(t, f, K(10), api.ErrIndexForm)
	for _, code := range []api.Errno{api.ErrArg, api.ErrPower, api.ErrClosed, api.ErrSlotId, 999} {
		f := forestOf(t, two)
		f.rootCodes = [8]api.Errno{0: code, 2: api.ErrPage}
		hasNot(t, f, K(10), code)
		f.asks(t, "root 0")
		f.rootCodes = [8]api.Errno{2: code, 1: api.ErrPage}
		hasNot(t, f, K(10), code)
		f.looks(t)
	}
}

// TestP603: the numbers as they are; nothing else is read.
func TestP603(t *testing.T) {
	for _, v := range []int64{0, 1, 8, 9, -1, 1 << 40, math.MinInt64, math.MaxInt64} {
		f := forestOf(t, "")
		f.roots = [8]int64{77, v, -v}
		f.rootCodes = [8]api.Errno{0: api.ErrPage, 3: api.ErrPage}
		counts(t, f, int(v), int(-v))
		f.asks(t, "root 1", "root 2")
	}
	for _, code := range []api.Errno{api.ErrArg, api.ErrPower, api.ErrClosed, 999} {
		f := forestOf(t, two)
		f.rootCodes = [8]api.Errno{1: code, 2: code}
		uncounted(t, f, code)
	}
	b := batch(t, 20)
	for i := range 20 {
		inserts(t, b, i)
		if n, code := index.Count(b); n != i+1 || code != api.OK {
			t.Errorf("Count() = %d, %d, want %d", n, code, i+1)
		}
	}
	counts(t, b, 20, 3)
}

func uncounted(t *testing.T, r api.Getter, want api.Errno) {
	t.Helper()
	if n, code := index.Count(r); n != 0 || code != want {
		t.Errorf("Count() = %d, %d, want 0, %d", n, code, want)
	}
	if n, code := index.Height(r); n != 0 || code != want {
		t.Errorf("Height() = %d, %d, want 0, %d", n, code, want)
	}
}

// TestP601Nil: nothing, and a nil store or batch.
func TestP601Nil(t *testing.T) {
	for _, r := range []api.Getter{nil, (*slots.Store)(nil), (*slots.Batch)(nil), (*noForest)(nil)} {
		hasNot(t, r, K(1), api.ErrArg)
		uncounted(t, r, api.ErrArg)
		for _, most := range []int{0, 1, 9, -1, math.MinInt, math.MaxInt} {
			unscanned(t, r, low, high, most, api.ErrArg)
			unscanned(t, r, high, low, most, api.ErrArg)
		}
		walks(t, r, low, high)
		walks(t, r, high, low)
	}
	uninserted(t, nil, 1, api.ErrArg)
	undeleted(t, nil, 1, api.ErrArg)
}

// noForest: a Getter of which there is none: it answers as all objects that are nil do.
type noForest struct{}

func (f *noForest) Root(i int) (int64, api.Errno)              { return 0, api.ErrArg }
func (f *noForest) Get(kind int, id int64) ([]byte, api.Errno) { return nil, api.ErrArg }
