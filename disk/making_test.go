package disk_test

import (
	"bytes"
	"math"
	"testing"

	"trellis/api"
	"trellis/disk"
)

func TestP201NewRefuses(t *testing.T) {
	for _, n := range []int{0, -1, -limit, limit + 1, limit * size, math.MinInt, math.MaxInt, math.MaxInt32} {
		if d, e := disk.New(n); d != nil || e != api.ErrArg {
			t.Errorf("New(%d) = %v, %d, want nil, ErrArg", n, d, e)
		}
	}
}

func TestP201New(t *testing.T) {
	for _, n := range []int{1, 2, 3, 17, limit - 1, limit} {
		d := made(t, n)
		if d.Sectors() != n {
			t.Errorf("New(%d).Sectors() = %d", n, d.Sectors())
		}
		stats(t, d, api.DiskStat{})
		pends(t, d)
		if !bytes.Equal(d.Image(), make([]byte, n*size)) {
			t.Errorf("New(%d): not all laid bytes are 0", n)
		}
		for at := range n {
			reads(t, d, at, all(0))
		}
		for range 100 {
			wants(t, "Flush without a fuse", d.Flush(), api.OK)
		}
	}
}

func TestP201LoadRefuses(t *testing.T) {
	for _, n := range []int{0, 1, size - 1, size + 1, 2*size - 1, 300, limit*size - 1, limit*size + 1, (limit + 1) * size} {
		if d, e := disk.Load(make([]byte, n)); d != nil || e != api.ErrImage {
			t.Errorf("Load of %d bytes = %v, %d, want nil, ErrImage", n, d, e)
		}
	}
	if d, e := disk.Load(nil); d != nil || e != api.ErrImage {
		t.Errorf("Load(nil) = %v, %d, want nil, ErrImage", d, e)
	}
}

func TestP201Load(t *testing.T) {
	for _, n := range []int{1, 2, 3, limit - 1, limit} {
		image := make([]byte, 0, n*size)
		for i := range n {
			image = append(image, ramp(byte(i*7))...)
		}
		d := loaded(t, image)
		if d.Sectors() != n {
			t.Errorf("Load of %d sectors has %d", n, d.Sectors())
		}
		for i := range n {
			reads(t, d, i, ramp(byte(i*7)))
		}
		if !bytes.Equal(d.Image(), image) {
			t.Errorf("Load of %d sectors: the image is another one", n)
		}
		stats(t, d, api.DiskStat{})
		pends(t, d)
		for range 100 {
			wants(t, "Flush without a fuse", d.Flush(), api.OK)
		}
	}
}

func TestP201SectorsWithoutPower(t *testing.T) {
	d := down(t, 5, api.SectorWrite{At: 4, Data: all(1)})
	if d.Sectors() != 5 {
		t.Errorf("Sectors() without power = %d, want 5", d.Sectors())
	}
	crashes(t, d, nil, 0)
	if d.Sectors() != 5 {
		t.Errorf("Sectors() behind a crash = %d, want 5", d.Sectors())
	}
}

func TestP201NilDisk(t *testing.T) {
	var d *disk.Disk
	if d.Sectors() != 0 || len(d.Pending()) != 0 || len(d.Image()) != 0 || d.Stat() != (api.DiskStat{}) {
		t.Errorf("a nil disk tells %d sectors, %d pending, an image of %d, %+v", d.Sectors(), len(d.Pending()), len(d.Image()), d.Stat())
	}
	for _, at := range []int{-1, 0, 1, math.MaxInt} {
		refuses(t, d, at, api.ErrArg)
		wants(t, "Write", d.Write(at, all(1)), api.ErrArg)
		wants(t, "Write", d.Write(at, nil), api.ErrArg)
		wants(t, "Cut", d.Cut(at), api.ErrArg)
	}
	wants(t, "Flush", d.Flush(), api.ErrArg)
	for _, keep := range [][]bool{nil, {}, {true}} {
		if n, e := d.Crash(keep); n != 0 || e != api.ErrArg {
			t.Errorf("Crash(%v) on a nil disk = %d, %d, want 0, ErrArg", keep, n, e)
		}
	}
}
