package wal_test

import (
	"bytes"
	"encoding/binary"
	"hash/crc32"
	"math"
	"slices"
	"testing"

	"trellis/api"
	"trellis/disk"
	"trellis/wal"
)

const (
	size     = 128
	piece    = 104
	maxBytes = 32768
	maxLsn   = int64(1) << 40
	maxTurn  = int64(1) << 40
	maxRound = int64(1)<<31 - 1
)

// headSays: a head sector's fields, each as wide as it can stand on the disk: also those that no head has.
type headSays struct {
	round       uint32
	lsn, turn   uint64
	magic       string
	n, floor    uint32
	tail        byte // of each of the bytes 40..127
	turnedInSum uint32
}

// headOf: a head as it must be.
func headOf(round, lsn, turn, floor int64, n int) headSays {
	return headSays{round: uint32(round), lsn: uint64(lsn), turn: uint64(turn), magic: "trellis1", n: uint32(n), floor: uint32(floor)}
}

func (h headSays) bytes() []byte {
	b := binary.BigEndian.AppendUint32(make([]byte, 4), h.round)
	b = binary.BigEndian.AppendUint64(b, h.lsn)
	b = binary.BigEndian.AppendUint64(b, h.turn)
	b = append(b, h.magic...)
	b = binary.BigEndian.AppendUint32(b, h.n)
	b = binary.BigEndian.AppendUint32(b, h.floor)
	b = append(b, bytes.Repeat([]byte{h.tail}, size-40)...)
	binary.BigEndian.PutUint32(b, crc32.ChecksumIEEE(b[4:])^h.turnedInSum)
	return b
}

// partSays: the fields of a record's sector, also those that none has.
type partSays struct {
	round       uint32
	lsn         uint64
	kind, blank byte
	part        uint16
	size        uint32
	payload     []byte
	tail        byte // of each byte behind the payload
	turnedInSum uint32
}

func (p partSays) bytes() []byte {
	b := binary.BigEndian.AppendUint32(make([]byte, 4), p.round)
	b = binary.BigEndian.AppendUint64(b, p.lsn)
	b = append(b, p.kind, p.blank)
	b = binary.BigEndian.AppendUint16(b, p.part)
	b = binary.BigEndian.AppendUint32(b, p.size)
	b = append(b, p.payload...)
	b = append(b, bytes.Repeat([]byte{p.tail}, size-len(b))...)
	binary.BigEndian.PutUint32(b, crc32.ChecksumIEEE(b[4:])^p.turnedInSum)
	return b
}

// partsOf: the sectors of a record as they must be.
func partsOf(round, lsn int64, kind int, data []byte) []partSays {
	var out []partSays
	for i := 0; i == 0 || i*piece < len(data); i++ {
		out = append(out, partSays{
			round: uint32(round), lsn: uint64(lsn) + uint64(i), kind: byte(kind), part: uint16(i), size: uint32(len(data)),
			payload: data[i*piece : min(len(data), (i+1)*piece)],
		})
	}
	return out
}

// wants: is the answer of a call the one that is wanted?
func wants(t *testing.T, what string, got, want api.Errno) {
	t.Helper()
	if got != want {
		t.Errorf("%s = %d, want %d", what, got, want)
	}
}

// filled: bytes that differ from each other and hang on v.
func filled(v, n int) []byte {
	out := make([]byte, n)
	for i := range out {
		out[i] = byte(v*37 + i*11 + i/251)
	}
	return out
}

func zeros() []byte { return make([]byte, size) }

func made(t *testing.T, sectors int) *disk.Disk {
	t.Helper()
	d, code := disk.New(sectors)
	wants(t, "New", code, api.OK)
	return d
}

// dirty: a disk on whose every sector stand bytes that are none of a log.
func dirty(t *testing.T, sectors int) *disk.Disk {
	t.Helper()
	d, code := disk.Load(filled(sectors, sectors*size))
	wants(t, "Load", code, api.OK)
	return d
}

// formatted: a disk with an empty log that was never opened.
func formatted(t *testing.T, sectors, start, n int) *disk.Disk {
	t.Helper()
	d := dirty(t, sectors)
	wants(t, "Format", wal.Format(d, start, n), api.OK)
	return d
}

func opens(t *testing.T, d *disk.Disk, start, n int) *wal.Log {
	t.Helper()
	l, code := wal.Open(d, start, n)
	if l == nil || code != api.OK {
		t.Fatalf("Open(%d, %d) = %v, %d, want a log", start, n, l, code)
	}
	return l
}

func refuses(t *testing.T, d *disk.Disk, start, n int, want api.Errno) {
	t.Helper()
	l, code := wal.Open(d, start, n)
	if l != nil || code != want {
		t.Errorf("Open(%d, %d) = %v, %d, want none, %d", start, n, l, code, want)
	}
}

// crafted: a disk with those sectors, from 0 on, all of them flushed.
func crafted(t *testing.T, parts ...[]byte) *disk.Disk {
	t.Helper()
	d, code := disk.Load(bytes.Join(parts, nil))
	wants(t, "Load", code, api.OK)
	return d
}

func appends(t *testing.T, l *wal.Log, kind int, data []byte, reserved bool, want int64) {
	t.Helper()
	if lsn, code := l.Append(kind, data, reserved); lsn != want || code != api.OK {
		t.Errorf("Append(%d, %d bytes, %v) = %d, %d, want %d, 0", kind, len(data), reserved, lsn, code, want)
	}
}

func rejects(t *testing.T, l *wal.Log, kind int, data []byte, reserved bool, want api.Errno) {
	t.Helper()
	if lsn, code := l.Append(kind, data, reserved); lsn != 0 || code != want {
		t.Errorf("Append(%d, %d bytes, %v) = %d, %d, want 0, %d", kind, len(data), reserved, lsn, code, want)
	}
}

func rec(lsn int64, kind int, data []byte) api.LogRec {
	return api.LogRec{Lsn: lsn, Kind: kind, Data: data}
}

func same(a, b api.LogRec) bool {
	return a.Lsn == b.Lsn && a.Kind == b.Kind && bytes.Equal(a.Data, b.Data)
}

func holds(t *testing.T, l *wal.Log, want ...api.LogRec) {
	t.Helper()
	if got := l.Records(); !slices.EqualFunc(got, want, same) {
		t.Errorf("Records() = %v, want %v", brief(got), brief(want))
	}
}

// brief: lsn, kind and length of each record.
func brief(rs []api.LogRec) [][3]int {
	out := make([][3]int, 0, len(rs))
	for _, r := range rs {
		out = append(out, [3]int{int(r.Lsn), r.Kind, len(r.Data)})
	}
	return out
}

func stands(t *testing.T, l *wal.Log, head, next, durable int64, reserved, free int) {
	t.Helper()
	want := api.LogStat{Head: head, Next: next, Durable: durable, Live: int(next - head), Reserved: reserved, Free: free}
	if got := l.Stat(); got != want {
		t.Errorf("Stat() = %+v, want %+v", got, want)
	}
}

func reads(t *testing.T, d *disk.Disk, at int, want []byte) {
	t.Helper()
	got, code := d.Read(at)
	if code != api.OK || !bytes.Equal(got, want) {
		t.Errorf("sector %d is % x, %d, want % x", at, got, code, want)
	}
}

func pends(t *testing.T, d *disk.Disk, want ...api.SectorWrite) {
	t.Helper()
	equal := func(a, b api.SectorWrite) bool { return a.At == b.At && bytes.Equal(a.Data, b.Data) }
	if got := d.Pending(); !slices.EqualFunc(got, want, equal) {
		t.Errorf("pending is %v, want %v", got, want)
	}
}

// idle: a function that says whether the disk is as it was when idle was called: no write, no flush, no byte.
func idle(t *testing.T, d *disk.Disk) func() {
	t.Helper()
	stat, image, pending := d.Stat(), d.Image(), d.Pending()
	return func() {
		t.Helper()
		if now := d.Stat(); now != stat || !bytes.Equal(d.Image(), image) {
			t.Errorf("the disk was touched: %+v, want %+v", now, stat)
		}
		pends(t, d, pending...)
	}
}

// off: takes the disk's power away.
func off(t *testing.T, d *disk.Disk) {
	t.Helper()
	wants(t, "Cut", d.Cut(0), api.OK)
	wants(t, "Flush", d.Flush(), api.ErrPower)
}

// places: where no log can lie on a disk of 16 sectors.
var places = [][2]int{
	{-1, 6}, {math.MinInt, 6}, {-4, 4}, {0, 3}, {0, 2}, {0, 1}, {0, 0}, {0, -1}, {0, -6}, {4, math.MinInt}, {0, 17}, {1, 16}, {13, 4}, {12, 5}, {16, 4}, {17, 4},
	{math.MaxInt, 6}, {math.MaxInt - 5, 6}, {2, math.MaxInt}, {math.MaxInt, math.MaxInt}, {math.MinInt, math.MaxInt}, {-1, math.MaxInt}, {math.MinInt, math.MinInt},
}
