package pages_test

import (
	"bytes"
	"encoding/binary"
	"hash/crc32"
	"math"
	"slices"
	"testing"

	"trellis/api"
	"trellis/disk"
	"trellis/pages"
	"trellis/wal"
)

const (
	size     = 128
	whole    = 120 // bytes of a page
	maxLsn   = int64(1) << 40
	maxTurn  = int64(1) << 40
	maxRound = int64(1)<<31 - 1
)

// sealed: 128 bytes: the sum (with those bits turned), the bytes, and tail in each byte behind them.
func sealed(b []byte, tail byte, turnedInSum uint32) []byte {
	out := append(make([]byte, 4), b...)
	out = append(out, bytes.Repeat([]byte{tail}, size-len(out))...)
	binary.BigEndian.PutUint32(out, crc32.ChecksumIEEE(out[4:])^turnedInSum)
	return out
}

// labelSays: a label's fields, each as wide as it can stand on the disk: also those that no label has.
type labelSays struct {
	magic       string
	log, pages  uint32
	tail        byte
	turnedInSum uint32
}

func labelOf(log, pages int) labelSays {
	return labelSays{magic: "trellis2", log: uint32(log), pages: uint32(pages)}
}

func (l labelSays) bytes() []byte {
	b := binary.BigEndian.AppendUint32([]byte(l.magic), l.log)
	return sealed(binary.BigEndian.AppendUint32(b, l.pages), l.tail, l.turnedInSum)
}

// homeOf: the bytes of a page's home.
func homeOf(page int, content []byte) []byte {
	return sealed(append(binary.BigEndian.AppendUint32(nil, uint32(page)), content...), 0, 0)
}

// headOf: the bytes of a head of the log.
func headOf(round, lsn, turn, floor int64, n int) []byte {
	b := binary.BigEndian.AppendUint32(nil, uint32(round))
	b = binary.BigEndian.AppendUint64(b, uint64(lsn))
	b = binary.BigEndian.AppendUint64(b, uint64(turn))
	b = append(b, "trellis1"...)
	b = binary.BigEndian.AppendUint32(b, uint32(n))
	return sealed(binary.BigEndian.AppendUint32(b, uint32(floor)), 0, 0)
}

// payloadOf: that of a commit's record.
func payloadOf(batch ...api.PageImage) []byte {
	b := binary.BigEndian.AppendUint16(nil, uint16(len(batch)))
	for _, p := range batch {
		b = append(binary.BigEndian.AppendUint16(b, uint16(p.Page)), p.Data...)
	}
	return b
}

// recordOf: the sectors of a record of the log.
func recordOf(round, lsn int64, kind int, data []byte) [][]byte {
	var out [][]byte
	for i := 0; i == 0 || i*104 < len(data); i++ {
		b := binary.BigEndian.AppendUint32(nil, uint32(round))
		b = binary.BigEndian.AppendUint64(b, uint64(lsn)+uint64(i))
		b = binary.BigEndian.AppendUint16(append(b, byte(kind), 0), uint16(i))
		b = binary.BigEndian.AppendUint32(b, uint32(len(data)))
		out = append(out, sealed(append(b, data[i*104:min(len(data), (i+1)*104)]...), 0, 0))
	}
	return out
}

// roomOf: the sectors of a commit of so many pages.
func roomOf(pages int) int { return (2 + 122*pages + 103) / 104 }

// full: 120 times the byte.
func full(b byte) []byte { return bytes.Repeat([]byte{b}, whole) }

// filled: bytes that differ from each other and hang on v.
func filled(v, n int) []byte {
	out := make([]byte, n)
	for i := range out {
		out[i] = byte(v*37 + i*11 + i/251)
	}
	return out
}

func image(page int, b byte) api.PageImage { return api.PageImage{Page: page, Data: full(b)} }

func batch(l ...api.PageImage) []api.PageImage { return l }

// run: a batch of the pages from .. from+n-1.
func run(from, n int, b byte) []api.PageImage {
	var out []api.PageImage
	for i := range n {
		out = append(out, image(from+i, b+byte(i)))
	}
	return out
}

// wants: is the answer of a call the one that is wanted?
func wants(t *testing.T, what string, got, want api.Errno) {
	t.Helper()
	if got != want {
		t.Errorf("%s = %d, want %d", what, got, want)
	}
}

// loaded: a disk with those bytes, all of them flushed.
func loaded(t *testing.T, parts ...[]byte) *disk.Disk {
	t.Helper()
	d, code := disk.Load(bytes.Join(parts, nil))
	wants(t, "Load", code, api.OK)
	return d
}

// littered: a disk on whose every sector stand bytes that are none of a store.
func littered(t *testing.T, sectors int) *disk.Disk {
	t.Helper()
	return loaded(t, filled(sectors, sectors*size))
}

// formatted: a disk with an empty store that was never opened.
func formatted(t *testing.T, sectors, log, count int) *disk.Disk {
	t.Helper()
	d := littered(t, sectors)
	wants(t, "Format", pages.Format(d, log, count), api.OK)
	return d
}

// made: the store of the chapter's examples: 64 sectors, a log of 12, 20 pages.
func made(t *testing.T) (*disk.Disk, *pages.Store) {
	t.Helper()
	d := formatted(t, 64, 12, 20)
	return d, opens(t, d)
}

// replaced: the disk's lasting bytes, one sector of them changed.
func replaced(d *disk.Disk, at int, sector []byte) []byte {
	b := d.Image()
	copy(b[at*size:], sector)
	return b
}

// copied: a disk with the same lasting bytes and the same pending writes.
func copied(t *testing.T, d *disk.Disk) *disk.Disk {
	t.Helper()
	c := loaded(t, d.Image())
	for _, w := range d.Pending() {
		wants(t, "Write", c.Write(w.At, w.Data), api.OK)
	}
	return c
}

func opens(t *testing.T, d *disk.Disk) *pages.Store {
	t.Helper()
	s, code := pages.Open(d)
	if s == nil || code != api.OK {
		t.Fatalf("Open = %v, %d, want a store", s, code)
	}
	return s
}

func refuses(t *testing.T, d *disk.Disk, want api.Errno) {
	t.Helper()
	if s, code := pages.Open(d); s != nil || code != want {
		t.Errorf("Open = %v, %d, want none, %d", s, code, want)
	}
}

func holds(t *testing.T, s *pages.Store, page int, want []byte) {
	t.Helper()
	if got, code := s.Read(page); code != api.OK || !bytes.Equal(got, want) {
		t.Errorf("Read(%d) = % x, %d, want % x", page, got, code, want)
	}
}

func unread(t *testing.T, s *pages.Store, page int, want api.Errno) {
	t.Helper()
	if got, code := s.Read(page); len(got) != 0 || code != want {
		t.Errorf("Read(%d) = %v, %d, want none, %d", page, got, code, want)
	}
}

func commits(t *testing.T, s *pages.Store, batch []api.PageImage, held int, sync bool, want int64) {
	t.Helper()
	if lsn, code := s.Commit(batch, held, sync); lsn != want || code != api.OK {
		t.Errorf("Commit(%d pages, %d, %v) = %d, %d, want %d, 0", len(batch), held, sync, lsn, code, want)
	}
}

func rejects(t *testing.T, s *pages.Store, batch []api.PageImage, held int, want api.Errno) {
	t.Helper()
	for _, sync := range []bool{false, true} {
		if lsn, code := s.Commit(batch, held, sync); lsn != 0 || code != want {
			t.Errorf("Commit(%d pages, %d, %v) = %d, %d, want 0, %d", len(batch), held, sync, lsn, code, want)
		}
	}
}

// loses: a Commit meets the loss of power.
func loses(t *testing.T, s *pages.Store, batch []api.PageImage, held int, sync bool) {
	t.Helper()
	if lsn, code := s.Commit(batch, held, sync); lsn != 0 || code != api.ErrPower {
		t.Errorf("Commit(%d pages, %d, %v) = %d, %d, want 0, %d", len(batch), held, sync, lsn, code, api.ErrPower)
	}
}

func settles(t *testing.T, s *pages.Store, most, want int) {
	t.Helper()
	if n, code := s.Checkpoint(most); n != want || code != api.OK {
		t.Errorf("Checkpoint(%d) = %d, %d, want %d, 0", most, n, code, want)
	}
}

func unsettled(t *testing.T, s *pages.Store, most int, want api.Errno) {
	t.Helper()
	if n, code := s.Checkpoint(most); n != 0 || code != want {
		t.Errorf("Checkpoint(%d) = %d, %d, want 0, %d", most, n, code, want)
	}
}

func stands(t *testing.T, s *pages.Store, want api.PageStat) {
	t.Helper()
	if got := s.Stat(); got != want {
		t.Errorf("Stat() = %+v, want %+v", got, want)
	}
}

// logOf: a log's Stat: of a ring of so many sectors.
func logOf(ring int, head, next, durable int64, reserved int) api.LogStat {
	used := int(next - head)
	return api.LogStat{Head: head, Next: next, Durable: durable, Live: used, Reserved: reserved, Free: ring - used - reserved}
}

// contents: of all pages, one behind the other.
func contents(t *testing.T, s *pages.Store) []byte {
	t.Helper()
	var out []byte
	for page := range s.Stat().Pages {
		b, code := s.Read(page)
		if code != api.OK || len(b) != whole {
			t.Fatalf("Read(%d) = %v, %d", page, b, code)
		}
		out = append(out, b...)
	}
	return out
}

// pends: are these the disk's pending writes?
func pends(t *testing.T, d *disk.Disk, want ...api.SectorWrite) {
	t.Helper()
	equal := func(a, b api.SectorWrite) bool { return a.At == b.At && bytes.Equal(a.Data, b.Data) }
	if got := d.Pending(); !slices.EqualFunc(got, want, equal) {
		t.Errorf("pending is %v, want %v", got, want)
	}
}

// idle: a function that says whether the disk is as it was when idle was called: no write, no flush, no byte.
func idle(t *testing.T, d *disk.Disk) func() {
	t.Helper()
	stat, bytesThen, pending := d.Stat(), d.Image(), d.Pending()
	return func() {
		t.Helper()
		if now := d.Stat(); now != stat || !bytes.Equal(d.Image(), bytesThen) {
			t.Errorf("the disk was touched: %+v, want %+v", now, stat)
		}
		pends(t, d, pending...)
	}
}

// off: takes the disk's power away.
func off(t *testing.T, d *disk.Disk) {
	t.Helper()
	wants(t, "Cut", d.Cut(0), api.OK)
	wants(t, "Flush", d.Flush(), api.ErrPower)
}

// operation: one act on a disk: a write, or a flush (no data).
type operation struct {
	at   int
	data []byte
}

// does: the acts of a call are just these, in this order: it is tried with power for each number of them. begin: a disk and the call.
func does(t *testing.T, begin func() (*disk.Disk, func() api.Errno), ops []operation) {
	t.Helper()
	for power := range len(ops) + 1 {
		got, call := begin()
		want, _ := begin()
		for _, op := range ops[:power] {
			if op.data == nil {
				wants(t, "Flush", want.Flush(), api.OK)
			} else {
				wants(t, "Write", want.Write(op.at, op.data), api.OK)
			}
		}
		got.Cut(power)
		code := api.OK
		if power < len(ops) {
			code = api.ErrPower
		}
		wants(t, "the call", call(), code)
		if s := got.Stat(); s.Down != (power < len(ops)) || s.Writes != want.Stat().Writes || s.Flushes != want.Stat().Flushes {
			t.Errorf("with power for %d acts the disk has done %+v, want %+v", power, s, want.Stat())
		}
		pends(t, got, want.Pending()...)
		if !bytes.Equal(got.Image(), want.Image()) {
			t.Errorf("with power for %d acts the disk has other bytes than are wanted", power)
		}
	}
}

// first: a dirty page and its first.
type first struct {
	page int
	lsn  int64
}

// firsts: the dirty pages of the store that an Open of the disk's lasting bytes gives, in their order, found out by checkpoints of one page more each time, the last of which meets a loss of power.
func firsts(t *testing.T, d *disk.Disk) []first {
	t.Helper()
	var out []first
	for ahead := range opens(t, loaded(t, d.Image())).Stat().Dirty {
		c := loaded(t, d.Image())
		s := opens(t, c)
		settles(t, s, ahead, ahead)
		stat := s.Stat()
		c.Cut(1)
		unsettled(t, s, 1, api.ErrPower)
		w := c.Pending()
		if len(w) != 1 {
			t.Fatalf("a checkpoint of one page has done %d writes", len(w))
		}
		out = append(out, first{page: int(binary.BigEndian.Uint32(w[0].Data[4:])), lsn: stat.Oldest})
	}
	return out
}

// withRecords: the log of the store on the disk is given records by their kinds and payloads; they last.
func withRecords(t *testing.T, d *disk.Disk, log int, records ...api.LogRec) *disk.Disk {
	t.Helper()
	l, code := wal.Open(d, 1, log)
	wants(t, "the log's Open", code, api.OK)
	for _, r := range records {
		_, code := l.Append(r.Kind, r.Data, false)
		wants(t, "Append", code, api.OK)
	}
	wants(t, "the log's Flush", l.Flush(), api.OK)
	return d
}

func commitRecord(batch ...api.PageImage) api.LogRec {
	return api.LogRec{Kind: 1, Data: payloadOf(batch...)}
}

// numbers: that no call takes for one of pages.
var numbers = []int{-1, math.MinInt, math.MaxInt, math.MinInt64 / 2, 1 << 31, 1 << 32, 1 << 16, -1 << 16}
