package index_test

import (
	"bytes"
	"encoding/binary"
	"fmt"
	"slices"
	"strings"
	"testing"

	"trellis/api"
	"trellis/disk"
	"trellis/index"
	"trellis/slots"
)

// K: the key whose last bytes are x.
func K(x int) api.Key {
	return api.Key{21: byte(x >> 16), 22: byte(x >> 8), 23: byte(x)}
}

func keys(xs ...int) []api.Key {
	var out []api.Key
	for _, x := range xs {
		out = append(out, K(x))
	}
	return out
}

// Every key lies from low on and below high.
var (
	low  = api.Key{}
	high = K(1 << 24)
)

func init() {
	for i := range high {
		high[i] = 255
	}
}

// wants: is the answer of a call the one that is wanted?
func wants(t *testing.T, what string, got, want api.Errno) {
	t.Helper()
	if got != want {
		t.Errorf("%s = %d, want %d", what, got, want)
	}
}

const logSectors = 60

func sizesOf(tree int) api.Sizes { return api.Sizes{Node: 1, Edge: 1, Prop: 1, Tree: tree} }

// homeOf: the sector of a record's page.
func homeOf(id int) int { return 1 + logSectors + 4 + id - 1 }

// made: a store that has room for so many nodes of a tree, and an open batch of it.
func made(t *testing.T, tree int) (*disk.Disk, *slots.Store, *slots.Batch) {
	t.Helper()
	d, code := disk.New(1 + logSectors + 4 + tree)
	wants(t, "New", code, api.OK)
	wants(t, "Format", slots.Format(d, logSectors, sizesOf(tree)), api.OK)
	s := opens(t, d)
	return d, s, begins(t, s)
}

// batch: an open one.
func batch(t *testing.T, tree int) *slots.Batch {
	t.Helper()
	_, _, b := made(t, tree)
	return b
}

func opens(t *testing.T, d *disk.Disk) *slots.Store {
	t.Helper()
	s, code := slots.Open(d)
	if s == nil || code != api.OK {
		t.Fatalf("Open = %v, %d, want a store", s, code)
	}
	return s
}

func begins(t *testing.T, s *slots.Store) *slots.Batch {
	t.Helper()
	b, code := s.Begin()
	if b == nil || code != api.OK {
		t.Fatalf("Begin() = %v, %d, want a batch", b, code)
	}
	return b
}

func commits(t *testing.T, b *slots.Batch, sync bool) {
	t.Helper()
	_, code := b.Commit(false, sync)
	wants(t, "Commit", code, api.OK)
}

// off: takes the disk's power away.
func off(t *testing.T, d *disk.Disk) {
	t.Helper()
	wants(t, "Cut", d.Cut(0), api.OK)
	wants(t, "Flush", d.Flush(), api.ErrPower)
}

func inserts(t *testing.T, b *slots.Batch, xs ...int) {
	t.Helper()
	for _, x := range xs {
		if code := index.Insert(b, K(x)); code != api.OK {
			t.Errorf("Insert(%d) = %d", x, code)
		}
	}
}

func deletes(t *testing.T, b *slots.Batch, xs ...int) {
	t.Helper()
	for _, x := range xs {
		if code := index.Delete(b, K(x)); code != api.OK {
			t.Errorf("Delete(%d) = %d", x, code)
		}
	}
}

func uninserted(t *testing.T, b *slots.Batch, x int, want api.Errno) {
	t.Helper()
	if code := index.Insert(b, K(x)); code != want {
		t.Errorf("Insert(%d) = %d, want %d", x, code, want)
	}
}

func undeleted(t *testing.T, b *slots.Batch, x int, want api.Errno) {
	t.Helper()
	if code := index.Delete(b, K(x)); code != want {
		t.Errorf("Delete(%d) = %d, want %d", x, code, want)
	}
}

func has(t *testing.T, r api.Getter, k api.Key, want bool) {
	t.Helper()
	if got, code := index.Has(r, k); got != want || code != api.OK {
		t.Errorf("Has(% x) = %v, %d, want %v", k, got, code, want)
	}
}

func hasNot(t *testing.T, r api.Getter, k api.Key, want api.Errno) {
	t.Helper()
	if got, code := index.Has(r, k); got || code != want {
		t.Errorf("Has(% x) = %v, %d, want false, %d", k, got, code, want)
	}
}

func counts(t *testing.T, r api.Getter, count, height int) {
	t.Helper()
	if n, code := index.Count(r); n != count || code != api.OK {
		t.Errorf("Count() = %d, %d, want %d", n, code, count)
	}
	if n, code := index.Height(r); n != height || code != api.OK {
		t.Errorf("Height() = %d, %d, want %d", n, code, height)
	}
}

func scans(t *testing.T, r api.Getter, from, to api.Key, most int, want ...api.Key) {
	t.Helper()
	if got, code := index.Scan(r, from, to, most); code != api.OK || !slices.Equal(got, want) {
		t.Errorf("Scan(% x, % x, %d) = % x, %d, want % x", from, to, most, got, code, want)
	}
}

func unscanned(t *testing.T, r api.Getter, from, to api.Key, most int, want api.Errno) {
	t.Helper()
	if got, code := index.Scan(r, from, to, most); len(got) != 0 || code != want {
		t.Errorf("Scan(% x, % x, %d) = % x, %d, want none, %d", from, to, most, got, code, want)
	}
}

func walks(t *testing.T, r api.Getter, from, to api.Key, want ...api.Key) {
	t.Helper()
	if got := slices.Collect(index.Walk(r, from, to)); !slices.Equal(got, want) {
		t.Errorf("Walk(% x, % x) gives % x, want % x", from, to, got, want)
	}
}

// leafOf: the record of a leaf.
func leafOf(ks ...api.Key) []byte {
	rec := []byte{1, byte(len(ks))}
	for _, k := range ks {
		rec = append(rec, k[:]...)
	}
	return append(rec, make([]byte, 118-len(rec))...)
}

// innerOf: the record of an inner node.
func innerOf(ks []api.Key, kids ...int64) []byte {
	rec := leafOf(ks...)
	rec[0] = 2
	for i, kid := range kids {
		binary.BigEndian.PutUint32(rec[98+4*i:], uint32(kid))
	}
	return rec
}

// plant: a node of a tree as its text tells it: the record's number, the keys, the kids.
type plant struct {
	id   int64
	keys []int
	kids []plant
}

func (p plant) record() []byte {
	if p.kids == nil {
		return leafOf(keys(p.keys...)...)
	}
	var kids []int64
	for _, kid := range p.kids {
		kids = append(kids, kid.id)
	}
	return innerOf(keys(p.keys...), kids...)
}

// height, count: of the tree below it.
func (p plant) height() int {
	if p.kids == nil {
		return 1
	}
	return 1 + p.kids[0].height()
}

func (p plant) count() int { return len(p.members()) }

// members: the keys in its leaves.
func (p plant) members() []int {
	if p.kids == nil {
		return p.keys
	}
	var out []int
	for _, kid := range p.kids {
		out = append(out, kid.members()...)
	}
	return out
}

// members: the keys of the tree of that text.
func members(text string) []int {
	p, _ := planted(text)
	return p.members()
}

// String: for example 3[4](1[1 2 3] 2[4 5]).
func (p plant) String() string {
	out := fmt.Sprint(p.id, p.keys)
	out = strings.Replace(out, " ", "", 1)
	if p.kids != nil {
		var kids []string
		for _, kid := range p.kids {
			kids = append(kids, kid.String())
		}
		out += "(" + strings.Join(kids, " ") + ")"
	}
	return out
}

// planted: the tree of that text; what stands behind it in the text.
func planted(text string) (plant, string) {
	var p plant
	var head, inside string
	head, text, _ = strings.Cut(text, "[")
	fmt.Sscan(head, &p.id)
	inside, text, _ = strings.Cut(text, "]")
	for _, word := range strings.Fields(inside) {
		var x int
		fmt.Sscan(word, &x)
		p.keys = append(p.keys, x)
	}
	if strings.HasPrefix(text, "(") {
		for text[0] != ')' {
			var kid plant
			kid, text = planted(text[1:])
			p.kids = append(p.kids, kid)
		}
		text = text[1:]
	}
	return p, text
}

// lays: puts the tree of that text into the batch, which has no record of the kind yet; the numbers of the root page too.
func lays(t *testing.T, b *slots.Batch, text string) {
	t.Helper()
	if text == "" {
		return
	}
	p, rest := planted(text)
	if rest != "" || p.String() != text {
		t.Fatalf("no tree: %q", text)
	}
	for range b.Sizes().Tree {
		b.Alloc(api.STree)
	}
	written := map[int64]bool{}
	var put func(plant)
	put = func(p plant) {
		wants(t, "Put", b.Put(api.STree, p.id, p.record()), api.OK)
		written[p.id] = true
		for _, kid := range p.kids {
			put(kid)
		}
	}
	put(p)
	for id := range int64(b.Sizes().Tree) {
		if !written[id+1] {
			wants(t, "Free", b.Free(api.STree, id+1), api.OK)
		}
	}
	wants(t, "SetRoot", b.SetRoot(api.RootTree, p.id), api.OK)
	wants(t, "SetRoot", b.SetRoot(api.RootKeys, int64(p.count())), api.OK)
	wants(t, "SetRoot", b.SetRoot(api.RootHeight, int64(p.height())), api.OK)
}

// reader: a store or a batch.
type reader interface {
	api.Getter
	Used(kind int) ([]int64, api.Errno)
}

// grown: the tree in the reader, as a text; it is held against the chapter's words: the bytes of each record, the numbers of the root page, no other record. The empty text: an empty index.
func grown(t *testing.T, r reader) string {
	t.Helper()
	var number [3]int64
	for i := range number {
		v, code := r.Root(i)
		wants(t, "Root", code, api.OK)
		number[i] = v
	}
	used, code := r.Used(api.STree)
	wants(t, "Used", code, api.OK)
	if number[0] == 0 {
		if number != [3]int64{} || len(used) != 0 {
			t.Fatalf("an empty index with the numbers %v and the records %v", number, used)
		}
		return ""
	}
	g := gardener{t: t, r: r, height: int(number[2])}
	p := g.look(number[0], 1)
	slices.Sort(g.met)
	if !slices.Equal(g.met, used) {
		t.Fatalf("the records are %v, those of the tree %v", used, g.met)
	}
	if number[1] != int64(p.count()) {
		t.Fatalf("RootKeys is %d, but there are %d keys", number[1], p.count())
	}
	return p.String()
}

// gardener: looks at a tree's records.
type gardener struct {
	t      *testing.T
	r      reader
	height int
	met    []int64
}

func (g *gardener) look(id int64, depth int) plant {
	g.t.Helper()
	rec, code := g.r.Get(api.STree, id)
	if code != api.OK || depth > g.height || rec[1] > 4 {
		g.t.Fatalf("record %d at the depth %d: % x, %d", id, depth, rec, code)
	}
	g.met = append(g.met, id)
	p := plant{id: id}
	for i := range int(rec[1]) {
		k := api.Key(rec[2+24*i:][:24])
		x := int(k[21])<<16 | int(k[22])<<8 | int(k[23])
		if k != K(x) {
			g.t.Fatalf("record %d has the key % x", id, k)
		}
		p.keys = append(p.keys, x)
	}
	if depth < g.height {
		for i := range int(rec[1]) + 1 {
			kid := int64(binary.BigEndian.Uint32(rec[98+4*i:]))
			p.kids = append(p.kids, g.look(kid, depth+1))
		}
	}
	if !bytes.Equal(rec, p.record()) {
		g.t.Fatalf("record %d is % x, want % x", id, rec, p.record())
	}
	return p
}

// grows: is that the tree in the reader?
func grows(t *testing.T, r reader, want string) {
	t.Helper()
	if got := grown(t, r); got != want {
		t.Errorf("the tree is %q, want %q", got, want)
	}
}

// sound: is the tree valid, as the chapter says it?
func sound(t *testing.T, r reader) {
	t.Helper()
	valid(t, grown(t, r))
}

func valid(t *testing.T, text string) {
	t.Helper()
	if text == "" {
		return
	}
	p, _ := planted(text)
	if p.height() > 8 {
		t.Errorf("the height is %d", p.height())
	}
	p.check(t, true, -1, 1<<24)
}

// check: its keys rise, from lo on and below hi, are not too few nor too many, and so below it.
func (p plant) check(t *testing.T, root bool, lo, hi int) {
	t.Helper()
	least := 2
	if root {
		least = 1
	}
	if len(p.keys) < least || len(p.keys) > 4 || p.kids != nil && len(p.kids) != len(p.keys)+1 {
		t.Errorf("a node has %d keys and %d kids: %v", len(p.keys), len(p.kids), p)
		return
	}
	last := lo - 1
	for _, x := range p.keys {
		if x <= last || x >= hi {
			t.Errorf("a key %d behind %d, below %d: %v", x, last, hi, p)
		}
		last = x
	}
	for i, kid := range p.kids {
		from, to := lo, hi
		if i > 0 {
			from = p.keys[i-1]
		}
		if i < len(p.keys) {
			to = p.keys[i]
		}
		kid.check(t, false, from, to)
	}
}

// still: a function that says whether the reader is as it was when still was called.
func still(t *testing.T, r reader) func() {
	t.Helper()
	before := all(t, r)
	return func() {
		t.Helper()
		if now := all(t, r); now != before {
			t.Errorf("what is there is %s, it was %s", now, before)
		}
	}
}

// all: what the reader has, as a text.
func all(t *testing.T, r reader) string {
	t.Helper()
	var out strings.Builder
	for i := range 8 {
		v, code := r.Root(i)
		fmt.Fprintln(&out, "root", i, v, code)
	}
	for kind := 1; kind <= 4; kind++ {
		used, code := r.Used(kind)
		fmt.Fprintln(&out, "used", kind, used, code)
		for _, id := range used {
			rec, code := r.Get(kind, id)
			fmt.Fprintf(&out, "%d: % x %d\n", id, rec, code)
		}
	}
	return out.String()
}
