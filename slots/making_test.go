package slots_test

import (
	"bytes"
	"fmt"
	"math"
	"testing"

	"trellis/api"
	"trellis/disk"
	"trellis/pages"
	"trellis/slots"
)

func TestP502(t *testing.T) {
	for kind := 1; kind <= 4; kind++ {
		if got := slots.Per(kind); got != perOf[kind] {
			t.Errorf("Per(%d) = %d, want %d", kind, got, perOf[kind])
		}
	}
	for _, kind := range noKinds {
		if got := slots.Per(kind); got != 0 {
			t.Errorf("Per(%d) = %d, want 0", kind, got)
		}
	}
}

// noSizes: sizes that no store has.
func noSizes() []api.Sizes {
	out := []api.Sizes{
		{}, {Node: 1021, Edge: 1, Prop: 1, Tree: 1}, {Node: 1, Edge: 1, Prop: 1, Tree: 1021}, {Node: 256, Edge: 256, Prop: 256, Tree: 256},
		{Node: 1024, Edge: 1024, Prop: 1024, Tree: 1024}, {Node: 1 << 62, Edge: 1 << 62, Prop: 1 << 62, Tree: 1<<62 + 4}, {Node: math.MaxInt, Edge: math.MaxInt, Prop: 2, Tree: 1},
	}
	for _, n := range []int{0, -1, 1025, 1 << 16, 1<<16 + 1, 1<<32 + 1, math.MinInt, math.MaxInt} {
		out = append(out, api.Sizes{Node: n, Edge: 1, Prop: 1, Tree: 1}, api.Sizes{Node: 1, Edge: n, Prop: 1, Tree: 1},
			api.Sizes{Node: 1, Edge: 1, Prop: n, Tree: 1}, api.Sizes{Node: 1, Edge: 1, Prop: 1, Tree: n})
	}
	return append(out, api.Sizes{Node: -1, Edge: 4, Prop: 1, Tree: 1})
}

func TestP501NilDisk(t *testing.T) {
	for _, z := range append(noSizes(), small) {
		wants(t, "Format of no disk", slots.Format(nil, 8, z), api.ErrArg)
	}
	refuses(t, nil, api.ErrArg)
}

// TestP503Arguments: nothing is written; where the power is gone, an argument's fault is still told first.
func TestP503Arguments(t *testing.T) {
	for _, down := range []bool{false, true} {
		d := formatted(t, 8, small)
		if down {
			off(t, d)
		}
		still := idle(t, d)
		for _, z := range noSizes() {
			wants(t, fmt.Sprintf("Format of %v", z), slots.Format(d, 8, z), api.ErrArg)
		}
		for _, log := range []int{3, 0, -1, 9, 15, math.MinInt, math.MaxInt} { // the page store's answer
			wants(t, fmt.Sprintf("Format with a log of %d", log), slots.Format(d, log, small), api.ErrArg)
		}
		still()
		if down {
			wants(t, "Format", slots.Format(d, 8, small), api.ErrPower)
			still()
		}
	}
}

func TestP503Bounds(t *testing.T) {
	for _, z := range []api.Sizes{
		{Node: 1, Edge: 1, Prop: 1, Tree: 1}, {Node: 1020, Edge: 1, Prop: 1, Tree: 1}, {Node: 1, Edge: 1020, Prop: 1, Tree: 1},
		{Node: 1, Edge: 1, Prop: 1020, Tree: 1}, {Node: 1, Edge: 1, Prop: 1, Tree: 1020}, {Node: 300, Edge: 257, Prop: 256, Tree: 210}, {Node: 3, Edge: 5, Prop: 2, Tree: 4},
	} {
		_, s := made(t, 4, z)
		if got := s.Sizes(); got != z {
			t.Errorf("Sizes() = %v, want %v", got, z)
		}
		stands(t, s, api.PageStat{Pages: pagesOf(z), Log: logOf(2, 3, 3, 3, 0)})
		for kind := 1; kind <= 4; kind++ {
			lists(t, s, kind)
			lacks(t, s, kind, capacityOf(z, kind), api.ErrSlotId)
		}
	}
}

// formatBelow: what Format is to do, by the page store's calls.
func formatBelow(d *disk.Disk, log int, z api.Sizes) api.Errno {
	if code := pages.Format(d, log, pagesOf(z)); code != api.OK {
		return code
	}
	s, code := pages.Open(d)
	if code != api.OK {
		return code
	}
	if _, code := s.Commit([]api.PageImage{{Page: 0, Data: rootOf(z, [8]int64{})}}, 0, true); code != api.OK {
		return code
	}
	_, code = s.Checkpoint(1)
	return code
}

// TestP503Acts: what is written where, in which order, with power for each number of acts.
func TestP503Acts(t *testing.T) {
	for _, z := range []api.Sizes{small, {Node: 1, Edge: 2, Prop: 3, Tree: 4}} {
		for power := 0; ; power++ {
			got, want := littered(t, 30), littered(t, 30)
			got.Cut(power)
			want.Cut(power)
			code := slots.Format(got, 6, z)
			wants(t, "Format", code, formatBelow(want, 6, z))
			alike(t, "Format", got, want)
			if code == api.OK {
				break
			}
			wants(t, "Format", code, api.ErrPower)
		}
	}
}

func TestP503Form(t *testing.T) {
	z := api.Sizes{Node: 258, Edge: 3, Prop: 259, Tree: 5}
	for page, got := range contents(t, formatted(t, 9, z)) {
		want := make([]byte, whole)
		if page == 0 {
			want = []byte("trellis3\x01\x02\x00\x03\x01\x03\x00\x05")
			want = append(want, make([]byte, 104)...)
		}
		if !bytes.Equal(got, want) {
			t.Errorf("page %d is % x, want % x", page, got, want)
		}
	}
}

// keeps: each choice of what a crash keeps of the disk's unflushed writes, but of the last eight alone: those ahead are kept or not together.
func keeps(d *disk.Disk) [][]bool {
	n := d.Stat().Pending
	free := min(n, 8)
	var out [][]bool
	for mask := range 2 << free {
		keep := make([]bool, n)
		for i := range keep {
			if i < n-free {
				keep[i] = mask>>free&1 == 1
			} else {
				keep[i] = mask>>(n-1-i)&1 == 1
			}
		}
		out = append(out, keep)
	}
	return out
}

// TestP503BrokenOff: of a disk that had no store, and of one that had another one.
func TestP503BrokenOff(t *testing.T) {
	empty := held(t, opens(t, formatted(t, 6, small)))
	old := formatted(t, 5, small)
	s := opens(t, old)
	b := begins(t, s)
	gives(t, b, 1, 1, 2)
	commits(t, b, false, true, 3)
	before := held(t, s)
	for _, image := range [][]byte{filled(3, 14*size), append(old.Image(), make([]byte, 2*size)...)} {
		fresh := bytes.Equal(image[:9], filled(3, 9))
		for power := 0; ; power++ {
			d := loaded(t, image)
			d.Cut(power)
			code := slots.Format(d, 6, small)
			for _, keep := range keeps(d) {
				c := loaded(t, d.Image())
				for _, w := range d.Pending() {
					c.Write(w.At, w.Data)
				}
				c.Crash(keep)
				found, answer := slots.Open(c)
				switch {
				case answer == api.ErrNoStore && code != api.OK:
				case answer != api.OK:
					t.Errorf("power for %d acts: Open = %d", power, answer)
				case !fresh && power <= 1 && fmt.Sprint(held(t, found)) == fmt.Sprint(before):
				default:
					if got := held(t, found); fmt.Sprint(got) != fmt.Sprint(empty) || found.Sizes() != small {
						t.Errorf("power for %d acts: found %v", power, got)
					}
				}
			}
			if code == api.OK {
				break
			}
		}
	}
}

// TestP504RootPage: which bytes are looked at, and which are not.
func TestP504RootPage(t *testing.T) {
	z := api.Sizes{Node: 2, Edge: 3, Prop: 1, Tree: 2}
	d := formatted(t, 8, z)
	good := rootOf(z, [8]int64{})
	for at := range whole {
		for _, x := range []byte{1, 128, 255} {
			b := bytes.Clone(good)
			b[at] ^= x
			c := rewritten(t, d, api.PageImage{Page: 0, Data: b})
			if at < 16 {
				refuses(t, c, api.ErrNoStore)
			} else if s := opens(t, c); s.Sizes() != z {
				t.Errorf("Sizes() = %v, want %v", s.Sizes(), z)
			}
		}
	}
	for _, bad := range []api.Sizes{
		{Node: 0, Edge: 5, Prop: 1, Tree: 2}, {Node: 5, Edge: 0, Prop: 1, Tree: 2}, {Node: 2, Edge: 4, Prop: 0, Tree: 2}, {Node: 2, Edge: 3, Prop: 3, Tree: 0}, {},
		{Node: 2, Edge: 3, Prop: 1, Tree: 1}, {Node: 2, Edge: 3, Prop: 1, Tree: 3}, {Node: 65535, Edge: 65535, Prop: 65535, Tree: 65535}, {Node: 65535, Edge: 1, Prop: 1, Tree: 7},
	} {
		refuses(t, rewritten(t, d, api.PageImage{Page: 0, Data: rootOf(bad, [8]int64{})}), api.ErrNoStore)
	}
	for _, other := range []api.Sizes{{Node: 1, Edge: 1, Prop: 1, Tree: 5}, {Node: 3, Edge: 2, Prop: 2, Tree: 1}} { // as many pages
		if s := opens(t, rewritten(t, d, api.PageImage{Page: 0, Data: rootOf(other, [8]int64{})})); s.Sizes() != other {
			t.Errorf("Sizes() = %v, want %v", s.Sizes(), other)
		}
	}
}

// TestP504InTheLog: the root page counts as it was committed, whether it was written home or not.
func TestP504InTheLog(t *testing.T) {
	d := formatted(t, 8, small)
	s := below(t, d)
	s.Commit([]api.PageImage{{Page: 0, Data: rootOf(api.Sizes{Node: 1, Edge: 1, Prop: 1, Tree: 2}, [8]int64{7, 0, -9})}}, 0, true)
	d.Crash(nil)
	found := opens(t, d)
	if z := found.Sizes(); z != (api.Sizes{Node: 1, Edge: 1, Prop: 1, Tree: 2}) {
		t.Errorf("Sizes() = %v", z)
	}
	roots(t, found, 0, 7)
	roots(t, found, 2, -9)
	stands(t, found, api.PageStat{Pages: 6, Dirty: 1, Redone: 1, Oldest: 3, Log: logOf(6, 3, 5, 5, 0)})
}

// TestP504Below: the answers of the page store.
func TestP504Below(t *testing.T) {
	d := formatted(t, 8, small)
	refuses(t, littered(t, 20), api.ErrNoStore)
	refuses(t, broken(t, d, 8, 0), api.ErrPage)
	opens(t, broken(t, d, 8, 1))
	b := d.Image()
	clear(b[size : 3*size])
	refuses(t, loaded(t, b), api.ErrLogForm)
	c := littered(t, 20)
	pages.Format(c, 8, 6) // no root page
	refuses(t, c, api.ErrNoStore)
	for power := range 4 {
		got, want := loaded(t, d.Image()), loaded(t, d.Image())
		got.Cut(power)
		want.Cut(power)
		_, code := slots.Open(got)
		_, answer := pages.Open(want)
		wants(t, "Open", code, answer)
		alike(t, "Open", got, want)
	}
	off(t, d)
	refuses(t, d, api.ErrPower)
}

// TestP504Anew: no batch is open, and nothing is set aside.
func TestP504Anew(t *testing.T) {
	d, s := made(t, 10, small)
	begins(t, s)
	wants(t, "Reserve", s.Reserve(), api.OK)
	d.Crash(nil)
	s = opens(t, d)
	stands(t, s, api.PageStat{Pages: 6, Log: logOf(8, 3, 3, 3, 0)})
	begins(t, s)
}
