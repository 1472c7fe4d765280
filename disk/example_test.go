package disk_test

import (
	"testing"

	"trellis/api"
	"trellis/disk"
)

// TestP201ToP208Examples: the chapter's seven.
func TestP201ToP208Examples(t *testing.T) {
	for i, example := range []func(*testing.T){example1, example2, example3, example4, example5, example6, example7} {
		if !t.Run(string(rune('1'+i)), example) {
			t.Errorf("example %d does not hold", i+1)
		}
	}
}

func example1(t *testing.T) {
	d := made(t, 2)
	reads(t, d, 1, make([]byte, 128))
	refuses(t, d, 2, api.ErrSector)
	wants(t, "Write(0, 127 bytes)", d.Write(0, make([]byte, 127)), api.ErrSize)
	wants(t, "Write(5, nil)", d.Write(5, nil), api.ErrSector)
}

func example2(t *testing.T) {
	d := made(t, 1)
	wants(t, "Write", d.Write(0, all(7)), api.OK)
	reads(t, d, 0, all(7))
	images(t, d, all(0))
	wants(t, "Flush", d.Flush(), api.OK)
	images(t, d, all(7))
}

func example3(t *testing.T) {
	for _, c := range []struct {
		keep []bool
		n    int
		want byte
	}{{[]bool{true, false}, 1, 1}, {[]bool{false, true}, 1, 2}, {[]bool{true, true}, 2, 2}, {nil, 0, 0}} {
		d := made(t, 1)
		wants(t, "Write", d.Write(0, all(1)), api.OK)
		wants(t, "Write", d.Write(0, all(2)), api.OK)
		crashes(t, d, c.keep, c.n)
		reads(t, d, 0, all(c.want))
	}
}

func example4(t *testing.T) {
	d := made(t, 2)
	wants(t, "Cut", d.Cut(1), api.OK)
	wants(t, "Write", d.Write(0, all(1)), api.OK)
	wants(t, "Flush", d.Flush(), api.ErrPower)
	stats(t, d, api.DiskStat{Writes: 1, Pending: 1, Down: true})
	refuses(t, d, 0, api.ErrPower)
	wants(t, "Write(9, ..)", d.Write(9, all(1)), api.ErrSector)
	crashes(t, d, []bool{true}, 1)
	reads(t, d, 0, all(1))
}

func example5(t *testing.T) {
	d := made(t, 1)
	wants(t, "Cut", d.Cut(0), api.OK)
	reads(t, d, 0, all(0))
	wants(t, "Write(0, 3 bytes)", d.Write(0, make([]byte, 3)), api.ErrSize)
	wants(t, "Flush", d.Flush(), api.ErrPower)
}

func example6(t *testing.T) {
	d := made(t, 3)
	wants(t, "Cut", d.Cut(5), api.OK)
	wants(t, "Cut", d.Cut(0), api.OK)
	wants(t, "Flush", d.Flush(), api.ErrPower)
}

func example7(t *testing.T) {
	if d, e := disk.Load(make([]byte, 300)); d != nil || e != api.ErrImage {
		t.Errorf("Load of 300 bytes = %v, %d", d, e)
	}
	if d := loaded(t, make([]byte, 256)); d.Sectors() != 2 {
		t.Errorf("Load of 256 bytes has %d sectors", d.Sectors())
	}
}
