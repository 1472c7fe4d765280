package disk_test

import (
	"bytes"
	"math"
	"testing"

	"trellis/api"
	"trellis/disk"
)

const (
	size  = 128
	limit = 4096
)

// outside: numbers that no call of a disk with few sectors takes as a sector.
var outside = []int{-1, -2, -size, math.MinInt, 4096, 4097, math.MaxInt32, math.MaxInt}

// all: a sector whose bytes are all v.
func all(v byte) []byte { return bytes.Repeat([]byte{v}, size) }

// ramp: a sector whose bytes differ from each other, and from those of other ramps.
func ramp(v byte) []byte {
	out := make([]byte, size)
	for i := range out {
		out[i] = v ^ byte(i)
	}
	return out
}

func join(parts ...[]byte) []byte { return bytes.Join(parts, nil) }

func made(t *testing.T, n int) *disk.Disk {
	t.Helper()
	d, e := disk.New(n)
	if d == nil || e != api.OK {
		t.Fatalf("New(%d) = %v, %d", n, d, e)
	}
	return d
}

func loaded(t *testing.T, parts ...[]byte) *disk.Disk {
	t.Helper()
	d, e := disk.Load(join(parts...))
	if d == nil || e != api.OK {
		t.Fatalf("Load of %d sectors = %v, %d", len(parts), d, e)
	}
	return d
}

// down: a disk without power, with that many sectors of zeros and those writes pending.
func down(t *testing.T, n int, ws ...api.SectorWrite) *disk.Disk {
	t.Helper()
	d := made(t, n)
	for _, w := range ws {
		wants(t, "Write", d.Write(w.At, w.Data), api.OK)
	}
	wants(t, "Cut", d.Cut(0), api.OK)
	wants(t, "Flush", d.Flush(), api.ErrPower)
	return d
}

func wants(t *testing.T, what string, got, want api.Errno) {
	t.Helper()
	if got != want {
		t.Errorf("%s = %d, want %d", what, got, want)
	}
}

func reads(t *testing.T, d *disk.Disk, at int, want []byte) {
	t.Helper()
	got, e := d.Read(at)
	if e != api.OK || !bytes.Equal(got, want) {
		t.Errorf("Read(%d) = % x, %d, want % x, 0", at, got, e, want)
	}
}

func refuses(t *testing.T, d *disk.Disk, at int, want api.Errno) {
	t.Helper()
	got, e := d.Read(at)
	if e != want || got != nil {
		t.Errorf("Read(%d) = %d bytes, %d, want none, %d", at, len(got), e, want)
	}
}

func crashes(t *testing.T, d *disk.Disk, keep []bool, want int) {
	t.Helper()
	if n, e := d.Crash(keep); n != want || e != api.OK {
		t.Errorf("Crash(%v) = %d, %d, want %d, 0", keep, n, e, want)
	}
}

func images(t *testing.T, d *disk.Disk, parts ...[]byte) {
	t.Helper()
	if got := d.Image(); !bytes.Equal(got, join(parts...)) {
		t.Errorf("Image() = % x, want % x", got, join(parts...))
	}
}

func stats(t *testing.T, d *disk.Disk, want api.DiskStat) {
	t.Helper()
	if got := d.Stat(); got != want {
		t.Errorf("Stat() = %+v, want %+v", got, want)
	}
}

func pends(t *testing.T, d *disk.Disk, want ...api.SectorWrite) {
	t.Helper()
	got := d.Pending()
	if len(got) != len(want) {
		t.Errorf("Pending() has %d writes, want %d", len(got), len(want))
		return
	}
	for i, w := range want {
		if got[i].At != w.At || !bytes.Equal(got[i].Data, w.Data) {
			t.Errorf("Pending()[%d] = %d % x, want %d % x", i, got[i].At, got[i].Data, w.At, w.Data)
		}
	}
}
