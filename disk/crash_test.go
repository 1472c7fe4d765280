package disk_test

import (
	"bytes"
	"testing"

	"trellis/api"
	"trellis/disk"
)

func TestP206Keeps(t *testing.T) {
	for _, c := range []struct {
		keep []bool
		n    int
		want byte
	}{
		{nil, 0, 9}, {[]bool{}, 0, 9}, {[]bool{false}, 0, 9}, {[]bool{false, false, false, true, true}, 0, 9},
		{[]bool{true}, 1, 1}, {[]bool{true, false}, 1, 1}, {[]bool{true, false, false}, 1, 1},
		{[]bool{false, true}, 1, 2}, {[]bool{true, true}, 2, 2}, {[]bool{true, true, false, true}, 2, 2},
		{[]bool{false, false, true}, 1, 3}, {[]bool{true, false, true}, 2, 3}, {[]bool{true, true, true}, 3, 3}, {[]bool{true, true, true, true, true}, 3, 3},
	} {
		for _, off := range []bool{false, true} {
			d := loaded(t, all(9), all(8))
			for v := range 3 {
				wants(t, "Write", d.Write(0, all(byte(v+1))), api.OK)
			}
			if off {
				wants(t, "Cut", d.Cut(0), api.OK)
				wants(t, "Flush", d.Flush(), api.ErrPower)
			}
			crashes(t, d, c.keep, c.n)
			reads(t, d, 0, all(c.want))
			reads(t, d, 1, all(8))
			images(t, d, all(c.want), all(8))
			pends(t, d)
			stats(t, d, api.DiskStat{Writes: 3})
			crashes(t, d, []bool{true, true, true}, 0)
			images(t, d, all(c.want), all(8))
		}
	}
}

func TestP206PowerIsBackWithoutAFuse(t *testing.T) {
	for _, after := range []int{0, 1, 3} {
		d := made(t, 1)
		wants(t, "Cut", d.Cut(after), api.OK)
		crashes(t, d, nil, 0)
		for range 20 {
			wants(t, "Flush behind a crash with a fuse", d.Flush(), api.OK)
		}
		wants(t, "Cut", d.Cut(after), api.OK)
		for range after {
			wants(t, "Flush", d.Flush(), api.OK)
		}
		wants(t, "Flush", d.Flush(), api.ErrPower)
		crashes(t, d, nil, 0)
		for range 20 {
			wants(t, "Flush behind a crash without power", d.Flush(), api.OK)
		}
		stats(t, d, api.DiskStat{Flushes: 40 + after})
		wants(t, "Cut", d.Cut(1), api.OK)
		wants(t, "Write", d.Write(0, all(1)), api.OK)
		wants(t, "Flush", d.Flush(), api.ErrPower)
	}
}

func TestP206OnlyWhatNoFlushHasFollowed(t *testing.T) {
	d := made(t, 2)
	wants(t, "Write", d.Write(0, all(1)), api.OK)
	wants(t, "Flush", d.Flush(), api.OK)
	wants(t, "Write", d.Write(0, all(2)), api.OK)
	wants(t, "Write", d.Write(1, all(3)), api.OK)
	crashes(t, d, []bool{false, true}, 1)
	images(t, d, all(1), all(3))
	wants(t, "Write", d.Write(0, all(4)), api.OK)
	wants(t, "Write", d.Write(1, all(5)), api.OK)
	crashes(t, d, []bool{true}, 1)
	images(t, d, all(4), all(3))
	wants(t, "Flush", d.Flush(), api.OK)
	images(t, d, all(4), all(3))
	stats(t, d, api.DiskStat{Writes: 5, Flushes: 2})
}

// TestP206WholeSectors: all choices of what is kept of six writes to three sectors.
func TestP206WholeSectors(t *testing.T) {
	ats := []int{0, 1, 0, 2, 1, 0}
	for mask := range 1 << len(ats) {
		d := loaded(t, ramp(101), ramp(102), ramp(103))
		want := [][]byte{ramp(101), ramp(102), ramp(103)}
		var keep []bool
		kept := 0
		for i, at := range ats {
			wants(t, "Write", d.Write(at, ramp(byte(i))), api.OK)
			keep = append(keep, mask>>i&1 == 1)
			if keep[i] {
				want[at] = ramp(byte(i))
				kept++
			}
		}
		crashes(t, d, keep, kept)
		images(t, d, want...)
	}
}

func TestP207Image(t *testing.T) {
	d := loaded(t, ramp(1), ramp(2))
	wants(t, "Write", d.Write(1, ramp(3)), api.OK)
	images(t, d, ramp(1), ramp(2))
	wants(t, "Cut", d.Cut(0), api.OK)
	wants(t, "Flush", d.Flush(), api.ErrPower)
	images(t, d, ramp(1), ramp(2))
	again := loaded(t, d.Image())
	crashes(t, d, nil, 0)
	images(t, d, again.Image())
	wants(t, "Write", d.Write(0, ramp(4)), api.OK)
	wants(t, "Flush", d.Flush(), api.OK)
	images(t, d, ramp(4), ramp(2))
}

func TestP207SeenWithoutPower(t *testing.T) {
	ws := []api.SectorWrite{{At: 1, Data: ramp(1)}, {At: 0, Data: ramp(2)}, {At: 1, Data: ramp(3)}}
	d := down(t, 2, ws...)
	for range 3 {
		pends(t, d, ws...)
		images(t, d, all(0), all(0))
		stats(t, d, api.DiskStat{Writes: 3, Pending: 3, Down: true})
	}
	crashes(t, d, []bool{true, true, false}, 2)
	images(t, d, ramp(2), ramp(1))
}

func TestP207LookingTakesNothing(t *testing.T) {
	d := made(t, 1)
	wants(t, "Cut", d.Cut(1), api.OK)
	for range 4 {
		d.Pending()
		d.Image()
		d.Stat()
		d.Sectors()
	}
	stats(t, d, api.DiskStat{})
	wants(t, "Flush", d.Flush(), api.OK)
	wants(t, "Flush", d.Flush(), api.ErrPower)
}

func TestP207CountsLast(t *testing.T) {
	d := made(t, 1)
	wants(t, "Write", d.Write(0, all(1)), api.OK)
	wants(t, "Flush", d.Flush(), api.OK)
	wants(t, "Write", d.Write(0, all(2)), api.OK)
	wants(t, "Cut", d.Cut(0), api.OK)
	wants(t, "Write", d.Write(0, all(3)), api.ErrPower)
	wants(t, "Write", d.Write(0, all(3)), api.ErrPower)
	stats(t, d, api.DiskStat{Writes: 2, Flushes: 1, Pending: 1, Down: true})
	crashes(t, d, nil, 0)
	stats(t, d, api.DiskStat{Writes: 2, Flushes: 1})
	wants(t, "Write", d.Write(0, all(4)), api.OK)
	wants(t, "Flush", d.Flush(), api.OK)
	stats(t, d, api.DiskStat{Writes: 3, Flushes: 2})
}

// scribble: writes into all of a list, its spare room too.
func scribble(b []byte) {
	b = b[:cap(b)]
	for i := range b {
		b[i] ^= 0xa5
	}
}

func TestP208HandedIn(t *testing.T) {
	image := join(ramp(1), ramp(2))
	d := loaded(t, image[:size], image[size:])
	e, code := disk.Load(image)
	wants(t, "Load", code, api.OK)
	scribble(image)
	reads(t, d, 0, ramp(1))
	reads(t, e, 0, ramp(1))
	reads(t, e, 1, ramp(2))
	data := ramp(3)
	wants(t, "Write", e.Write(1, data), api.OK)
	if !bytes.Equal(data, ramp(3)) {
		t.Errorf("Write changes what is handed in")
	}
	scribble(data)
	reads(t, e, 1, ramp(3))
	pends(t, e, api.SectorWrite{At: 1, Data: ramp(3)})
	wants(t, "Flush", e.Flush(), api.OK)
	scribble(data)
	images(t, e, ramp(1), ramp(3))
}

func TestP208ArgumentsStay(t *testing.T) {
	image := append(make([]byte, 0, 4*size), join(ramp(1), ramp(2), ramp(3))...)
	whole := image[:cap(image)]
	copy(whole[3*size:], ramp(4))
	d, code := disk.Load(image)
	wants(t, "Load", code, api.OK)
	wants(t, "Write", d.Write(0, image[size:2*size]), api.OK)
	keep := []bool{true, true, true}
	wants(t, "Write", d.Write(2, image[:size]), api.OK)
	crashes(t, d, keep[:1], 1)
	if !bytes.Equal(whole, join(ramp(1), ramp(2), ramp(3), ramp(4))) || !keep[0] || !keep[1] || !keep[2] {
		t.Errorf("a call changes what is handed in")
	}
	images(t, d, ramp(2), ramp(2), ramp(3))
}

func TestP208HandedOut(t *testing.T) {
	d := loaded(t, ramp(1), ramp(2))
	wants(t, "Write", d.Write(0, ramp(3)), api.OK)
	wants(t, "Write", d.Write(0, ramp(4)), api.OK)
	answers := func() [][]byte {
		newest, _ := d.Read(0)
		laid, _ := d.Read(1)
		p := d.Pending()
		return [][]byte{newest, laid, d.Image(), p[0].Data, p[1].Data}
	}
	want := [][]byte{ramp(4), ramp(2), join(ramp(1), ramp(2)), ramp(3), ramp(4)}
	for i := range want {
		got := answers()
		scribble(got[i])
		scribble(append(got[i], got[i]...))
		for j, other := range got {
			if j != i && !bytes.Equal(other, want[j]) {
				t.Errorf("writing into answer %d changes answer %d", i, j)
			}
		}
		for j, other := range answers() {
			if !bytes.Equal(other, want[j]) {
				t.Errorf("writing into answer %d changes what the disk answers at %d", i, j)
			}
		}
	}
	p := d.Pending()
	p[0] = api.SectorWrite{At: 7}
	p = append(p[:1], api.SectorWrite{At: 8})
	pends(t, d, api.SectorWrite{At: 0, Data: ramp(3)}, api.SectorWrite{At: 0, Data: ramp(4)})
	if p[1].At != 8 {
		t.Errorf("what is appended to Pending() is not there")
	}
}

func TestP208OldAnswersStay(t *testing.T) {
	d := loaded(t, ramp(1))
	before := d.Image()
	wants(t, "Write", d.Write(0, ramp(2)), api.OK)
	read, _ := d.Read(0)
	pending := d.Pending()
	wants(t, "Flush", d.Flush(), api.OK)
	wants(t, "Write", d.Write(0, ramp(3)), api.OK)
	wants(t, "Flush", d.Flush(), api.OK)
	if !bytes.Equal(before, ramp(1)) || !bytes.Equal(read, ramp(2)) || len(pending) != 1 || !bytes.Equal(pending[0].Data, ramp(2)) {
		t.Errorf("a later call changes an earlier answer")
	}
}

func TestP208TwoDisks(t *testing.T) {
	image := join(ramp(1), ramp(2))
	d, e := loaded(t, image), loaded(t, image)
	wants(t, "Write", d.Write(0, ramp(3)), api.OK)
	wants(t, "Write", e.Write(1, ramp(4)), api.OK)
	wants(t, "Cut", d.Cut(0), api.OK)
	wants(t, "Flush", e.Flush(), api.OK)
	wants(t, "Flush", d.Flush(), api.ErrPower)
	images(t, d, ramp(1), ramp(2))
	images(t, e, ramp(1), ramp(4))
	stats(t, d, api.DiskStat{Writes: 1, Pending: 1, Down: true})
	stats(t, e, api.DiskStat{Writes: 1, Flushes: 1})
	reads(t, e, 0, ramp(1))
	crashes(t, d, []bool{true}, 1)
	images(t, e, ramp(1), ramp(4))
}
