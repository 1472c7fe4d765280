package slots_test

import (
	"bytes"
	"encoding/binary"
	"math"
	"slices"
	"testing"

	"trellis/api"
	"trellis/disk"
	"trellis/pages"
	"trellis/slots"
)

const (
	size  = 128
	whole = 120 // bytes of a page
)

// small: the sizes of the chapter's examples.
var small = api.Sizes{Node: 2, Edge: 1, Prop: 1, Tree: 1}

// Of each kind: its records' length, and how many of them a page holds.
var (
	lengthOf = [5]int{1: 20, 2: 36, 3: 48, 4: 118}
	perOf    = [5]int{1: 5, 2: 3, 3: 2, 4: 1}
)

// noKinds, noRoots: numbers that no call takes for a kind, or for one of the root page's numbers.
var (
	noKinds = []int{0, 5, -1, 6, 255, 257, 1 << 16, 1<<32 + 1, math.MinInt, math.MaxInt}
	noRoots = []int{-1, 8, 9, 255, 256, 1 << 32, math.MinInt, math.MaxInt}
)

// countsOf: of each kind: its pages.
func countsOf(z api.Sizes) [5]int { return [5]int{1: z.Node, 2: z.Edge, 3: z.Prop, 4: z.Tree} }

func pagesOf(z api.Sizes) int { return 1 + z.Node + z.Edge + z.Prop + z.Tree }

func capacityOf(z api.Sizes, kind int) int64 { return int64(perOf[kind] * countsOf(z)[kind]) }

// noIds: ids that are out of the kind's capacity.
func noIds(z api.Sizes, kind int) []int64 {
	c := capacityOf(z, kind)
	return []int64{0, -1, c + 1, c + 2, 1<<32 + 1, 1<<16 + 1, math.MinInt64, math.MinInt64 + 1, math.MaxInt64}
}

// roomOf: the log's sectors of a commit of so many pages.
func roomOf(pages int) int { return (2 + 122*pages + 103) / 104 }

// all: n times the byte.
func all(b byte, n int) []byte { return bytes.Repeat([]byte{b}, n) }

// filled: bytes that differ from each other and hang on v.
func filled(v, n int) []byte {
	out := make([]byte, n)
	for i := range out {
		out[i] = byte(v*37 + i*11 + i/251)
	}
	return out
}

// rootOf: the bytes of a root page.
func rootOf(z api.Sizes, roots [8]int64) []byte {
	b := []byte("trellis3")
	for _, n := range []int{z.Node, z.Edge, z.Prop, z.Tree} {
		b = binary.BigEndian.AppendUint16(b, uint16(n))
	}
	for _, v := range roots {
		b = binary.BigEndian.AppendUint64(b, uint64(v))
	}
	return append(b, make([]byte, 40)...)
}

// pageOf: the bytes of a kind's page: its records by their slots.
func pageOf(kind int, records map[int][]byte) []byte {
	b := make([]byte, whole)
	for slot, rec := range records {
		b[1] |= 1 << slot
		copy(b[2+slot*lengthOf[kind]:], rec)
	}
	return b
}

// wants: is the answer of a call the one that is wanted?
func wants(t *testing.T, what string, got, want api.Errno) {
	t.Helper()
	if got != want {
		t.Errorf("%s = %d, want %d", what, got, want)
	}
}

// loaded: a disk with those bytes, all of them flushed.
func loaded(t *testing.T, image []byte) *disk.Disk {
	t.Helper()
	d, code := disk.Load(image)
	wants(t, "Load", code, api.OK)
	return d
}

// littered: a disk on whose every sector stand bytes that are none of a store.
func littered(t *testing.T, sectors int) *disk.Disk {
	t.Helper()
	return loaded(t, filled(sectors, sectors*size))
}

// formatted: a disk with an empty store that was never opened.
func formatted(t *testing.T, log int, z api.Sizes) *disk.Disk {
	t.Helper()
	d := littered(t, 1+log+pagesOf(z))
	wants(t, "Format", slots.Format(d, log, z), api.OK)
	return d
}

// made: an empty store that was just opened.
func made(t *testing.T, log int, z api.Sizes) (*disk.Disk, *slots.Store) {
	t.Helper()
	d := formatted(t, log, z)
	return d, opens(t, d)
}

// rewritten: a disk with the store of that one, whose pages have other contents, in their homes.
func rewritten(t *testing.T, d *disk.Disk, batch ...api.PageImage) *disk.Disk {
	t.Helper()
	c := loaded(t, d.Image())
	s := below(t, c)
	_, code := s.Commit(batch, 0, true)
	wants(t, "the page store's Commit", code, api.OK)
	_, code = s.Checkpoint(1024)
	wants(t, "the page store's Checkpoint", code, api.OK)
	return c
}

// broken: a disk with the store of that one, where that page's home cannot be read.
func broken(t *testing.T, d *disk.Disk, log, page int) *disk.Disk {
	t.Helper()
	b := d.Image()
	b[(1+log+page)*size+77] ^= 4
	return loaded(t, b)
}

// below: the page store that is opened on the disk.
func below(t *testing.T, d *disk.Disk) *pages.Store {
	t.Helper()
	s, code := pages.Open(d)
	if s == nil || code != api.OK {
		t.Fatalf("the page store's Open = %v, %d", s, code)
	}
	return s
}

// contents: the pages that an opening of the disk's lasting bytes finds.
func contents(t *testing.T, d *disk.Disk) [][]byte {
	t.Helper()
	var out [][]byte
	s := below(t, loaded(t, d.Image()))
	for page := range s.Stat().Pages {
		b, code := s.Read(page)
		wants(t, "the page store's Read", code, api.OK)
		out = append(out, b)
	}
	return out
}

func opens(t *testing.T, d *disk.Disk) *slots.Store {
	t.Helper()
	s, code := slots.Open(d)
	if s == nil || code != api.OK {
		t.Fatalf("Open = %v, %d, want a store", s, code)
	}
	return s
}

func refuses(t *testing.T, d *disk.Disk, want api.Errno) {
	t.Helper()
	if s, code := slots.Open(d); s != nil || code != want {
		t.Errorf("Open = %v, %d, want none, %d", s, code, want)
	}
}

func begins(t *testing.T, s *slots.Store) *slots.Batch {
	t.Helper()
	b, code := s.Begin()
	if b == nil || code != api.OK {
		t.Fatalf("Begin() = %v, %d, want a batch", b, code)
	}
	return b
}

func unbegun(t *testing.T, s *slots.Store, want api.Errno) {
	t.Helper()
	if b, code := s.Begin(); b != nil || code != want {
		t.Errorf("Begin() = %v, %d, want none, %d", b, code, want)
	}
}

// reader: a store or a batch.
type reader interface {
	Sizes() api.Sizes
	Get(kind int, id int64) ([]byte, api.Errno)
	Used(kind int) ([]int64, api.Errno)
	Root(i int) (int64, api.Errno)
}

func holds(t *testing.T, r reader, kind int, id int64, want []byte) {
	t.Helper()
	if got, code := r.Get(kind, id); code != api.OK || !bytes.Equal(got, want) {
		t.Errorf("Get(%d, %d) = % x, %d, want % x", kind, id, got, code, want)
	}
}

func lacks(t *testing.T, r reader, kind int, id int64, want api.Errno) {
	t.Helper()
	if got, code := r.Get(kind, id); len(got) != 0 || code != want {
		t.Errorf("Get(%d, %d) = % x, %d, want none, %d", kind, id, got, code, want)
	}
}

func lists(t *testing.T, r reader, kind int, want ...int64) {
	t.Helper()
	if got, code := r.Used(kind); code != api.OK || !slices.Equal(got, want) {
		t.Errorf("Used(%d) = %v, %d, want %v", kind, got, code, want)
	}
}

func unlisted(t *testing.T, r reader, kind int, want api.Errno) {
	t.Helper()
	if got, code := r.Used(kind); len(got) != 0 || code != want {
		t.Errorf("Used(%d) = %v, %d, want none, %d", kind, got, code, want)
	}
}

func roots(t *testing.T, r reader, i int, want int64) {
	t.Helper()
	if got, code := r.Root(i); got != want || code != api.OK {
		t.Errorf("Root(%d) = %d, %d, want %d", i, got, code, want)
	}
}

func unrooted(t *testing.T, r reader, i int, want api.Errno) {
	t.Helper()
	if got, code := r.Root(i); got != 0 || code != want {
		t.Errorf("Root(%d) = %d, %d, want 0, %d", i, got, code, want)
	}
}

// gives: each Alloc answers the next one of these ids.
func gives(t *testing.T, b *slots.Batch, kind int, ids ...int64) {
	t.Helper()
	for _, want := range ids {
		if id, code := b.Alloc(kind); id != want || code != api.OK {
			t.Errorf("Alloc(%d) = %d, %d, want %d", kind, id, code, want)
		}
	}
}

func denies(t *testing.T, b *slots.Batch, kind int, want api.Errno) {
	t.Helper()
	if id, code := b.Alloc(kind); id != 0 || code != want {
		t.Errorf("Alloc(%d) = %d, %d, want 0, %d", kind, id, code, want)
	}
}

func puts(t *testing.T, b *slots.Batch, kind int, id int64, rec []byte) {
	t.Helper()
	wants(t, "Put", b.Put(kind, id, rec), api.OK)
}

func frees(t *testing.T, b *slots.Batch, kind int, ids ...int64) {
	t.Helper()
	for _, id := range ids {
		wants(t, "Free", b.Free(kind, id), api.OK)
	}
}

func commits(t *testing.T, b *slots.Batch, held, sync bool, want int64) {
	t.Helper()
	if lsn, code := b.Commit(held, sync); lsn != want || code != api.OK {
		t.Errorf("Commit(%v, %v) = %d, %d, want %d, 0", held, sync, lsn, code, want)
	}
}

func rejects(t *testing.T, b *slots.Batch, held, sync bool, want api.Errno) {
	t.Helper()
	if lsn, code := b.Commit(held, sync); lsn != 0 || code != want {
		t.Errorf("Commit(%v, %v) = %d, %d, want 0, %d", held, sync, lsn, code, want)
	}
}

func settles(t *testing.T, s *slots.Store, most, want int) {
	t.Helper()
	if n, code := s.Checkpoint(most); n != want || code != api.OK {
		t.Errorf("Checkpoint(%d) = %d, %d, want %d, 0", most, n, code, want)
	}
}

func unsettled(t *testing.T, s *slots.Store, most int, want api.Errno) {
	t.Helper()
	if n, code := s.Checkpoint(most); n != 0 || code != want {
		t.Errorf("Checkpoint(%d) = %d, %d, want 0, %d", most, n, code, want)
	}
}

func stands(t *testing.T, s *slots.Store, want api.PageStat) {
	t.Helper()
	if got := s.Stat(); got != want {
		t.Errorf("Stat() = %+v, want %+v", got, want)
	}
}

// logOf: a log's Stat: of a ring of so many sectors.
func logOf(ring int, head, next, durable int64, reserved int) api.LogStat {
	used := int(next - head)
	return api.LogStat{Head: head, Next: next, Durable: durable, Live: used, Reserved: reserved, Free: ring - used - reserved}
}

// pends: are these the disk's pending writes?
func pends(t *testing.T, d *disk.Disk, want ...api.SectorWrite) {
	t.Helper()
	equal := func(a, b api.SectorWrite) bool { return a.At == b.At && bytes.Equal(a.Data, b.Data) }
	if got := d.Pending(); !slices.EqualFunc(got, want, equal) {
		t.Errorf("pending is %v, want %v", got, want)
	}
}

// alike: has the disk done the same as the other, and has it the same bytes?
func alike(t *testing.T, what string, got, want *disk.Disk) {
	t.Helper()
	if got.Stat() != want.Stat() || !bytes.Equal(got.Image(), want.Image()) {
		t.Errorf("%s: the disk has done %+v, want %+v; or its bytes differ", what, got.Stat(), want.Stat())
	}
	pends(t, got, want.Pending()...)
}

// idle: a function that says whether the disk is as it was when idle was called: no write, no flush, no byte.
func idle(t *testing.T, d *disk.Disk) func() {
	t.Helper()
	stat, bytesThen, pending := d.Stat(), d.Image(), d.Pending()
	return func() {
		t.Helper()
		if now := d.Stat(); now != stat || !bytes.Equal(d.Image(), bytesThen) {
			t.Errorf("the disk was touched: %+v, want %+v", now, stat)
		}
		pends(t, d, pending...)
	}
}

// off: takes the disk's power away.
func off(t *testing.T, d *disk.Disk) {
	t.Helper()
	wants(t, "Cut", d.Cut(0), api.OK)
	wants(t, "Flush", d.Flush(), api.ErrPower)
}

// holding: what the reader holds: of each kind the records by their ids, and the numbers of the root page.
type holding struct {
	records [5]map[int64]string
	roots   [8]int64
}

func held(t *testing.T, r reader) holding {
	t.Helper()
	var out holding
	for kind := 1; kind <= 4; kind++ {
		out.records[kind] = map[int64]string{}
		ids, code := r.Used(kind)
		wants(t, "Used", code, api.OK)
		for id := range capacityOf(r.Sizes(), kind) + 1 {
			rec, code := r.Get(kind, id)
			if code == api.OK {
				out.records[kind][id] = string(rec)
			}
			if (code == api.OK) != slices.Contains(ids, id) || code != api.OK && code != api.ErrSlotId {
				t.Fatalf("Get(%d, %d) = %d, but Used is %v", kind, id, code, ids)
			}
		}
	}
	for i := range out.roots {
		v, code := r.Root(i)
		wants(t, "Root", code, api.OK)
		out.roots[i] = v
	}
	return out
}
