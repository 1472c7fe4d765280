package disk_test

import (
	"math"
	"testing"

	"trellis/api"
)

func TestP202ReadsTheNewest(t *testing.T) {
	d := loaded(t, ramp(1), ramp(2), ramp(3))
	wants(t, "Write", d.Write(1, ramp(4)), api.OK)
	wants(t, "Write", d.Write(2, ramp(5)), api.OK)
	wants(t, "Write", d.Write(1, ramp(6)), api.OK)
	reads(t, d, 0, ramp(1))
	reads(t, d, 1, ramp(6))
	reads(t, d, 2, ramp(5))
	wants(t, "Flush", d.Flush(), api.OK)
	wants(t, "Write", d.Write(2, ramp(7)), api.OK)
	reads(t, d, 0, ramp(1))
	reads(t, d, 1, ramp(6))
	reads(t, d, 2, ramp(7))
	crashes(t, d, nil, 0)
	reads(t, d, 2, ramp(5))
}

func TestP202Refuses(t *testing.T) {
	on := made(t, 2)
	off := down(t, 2)
	for _, at := range append([]int{2, 3}, outside...) {
		refuses(t, on, at, api.ErrSector)
		refuses(t, off, at, api.ErrSector)
	}
	refuses(t, off, 0, api.ErrPower)
	refuses(t, off, 1, api.ErrPower)
}

func TestP202ChangesNothing(t *testing.T) {
	d := made(t, 2)
	wants(t, "Write", d.Write(0, all(1)), api.OK)
	wants(t, "Cut", d.Cut(1), api.OK)
	for range 5 {
		reads(t, d, 0, all(1))
		reads(t, d, 1, all(0))
		refuses(t, d, 2, api.ErrSector)
	}
	stats(t, d, api.DiskStat{Writes: 1, Pending: 1})
	pends(t, d, api.SectorWrite{At: 0, Data: all(1)})
	wants(t, "the operation that the fuse leaves", d.Flush(), api.OK)
	wants(t, "the operation behind it", d.Flush(), api.ErrPower)
}

func TestP203Refuses(t *testing.T) {
	on := made(t, 2)
	off := down(t, 2)
	for _, at := range append([]int{2, 3}, outside...) {
		for _, data := range [][]byte{nil, all(1), all(1)[:5]} {
			wants(t, "Write to no sector", on.Write(at, data), api.ErrSector)
			wants(t, "Write to no sector, without power", off.Write(at, data), api.ErrSector)
		}
	}
	for _, n := range []int{0, 1, 127, 129, 256, 4096} {
		wants(t, "Write of another length", on.Write(1, make([]byte, n)), api.ErrSize)
		wants(t, "Write of another length, without power", off.Write(1, make([]byte, n)), api.ErrSize)
	}
	wants(t, "Write of nil", on.Write(0, nil), api.ErrSize)
	wants(t, "Write without power", off.Write(0, all(1)), api.ErrPower)
	stats(t, on, api.DiskStat{})
	stats(t, off, api.DiskStat{Down: true})
	images(t, on, all(0), all(0))
}

func TestP203SpareRoomIsNoData(t *testing.T) {
	d := made(t, 1)
	wants(t, "Write of 127 of 256", d.Write(0, make([]byte, 127, 256)), api.ErrSize)
	wants(t, "Write of 128 of 256", d.Write(0, join(ramp(1), ramp(2))[:size]), api.OK)
	reads(t, d, 0, ramp(1))
}

func TestP203RefusedLeavesTheFuse(t *testing.T) {
	d := made(t, 1)
	wants(t, "Cut", d.Cut(1), api.OK)
	for range 3 {
		wants(t, "Write", d.Write(1, all(1)), api.ErrSector)
		wants(t, "Write", d.Write(0, all(1)[1:]), api.ErrSize)
	}
	wants(t, "Write", d.Write(0, all(1)), api.OK)
	wants(t, "Write", d.Write(1, all(2)), api.ErrSector)
	wants(t, "Write", d.Write(0, nil), api.ErrSize)
	stats(t, d, api.DiskStat{Writes: 1, Pending: 1})
	wants(t, "Write", d.Write(0, all(2)), api.ErrPower)
	stats(t, d, api.DiskStat{Writes: 1, Pending: 1, Down: true})
	pends(t, d, api.SectorWrite{At: 0, Data: all(1)})
}

func TestP203OneEntryAWrite(t *testing.T) {
	d := made(t, 3)
	var want []api.SectorWrite
	for i := range 40 {
		w := api.SectorWrite{At: i * i % 3, Data: ramp(byte(i / 2))}
		wants(t, "Write", d.Write(w.At, w.Data), api.OK)
		want = append(want, w)
		stats(t, d, api.DiskStat{Writes: i + 1, Pending: i + 1})
	}
	pends(t, d, want...)
	images(t, d, all(0), all(0), all(0))
}

func TestP204LaysDownInOrder(t *testing.T) {
	d := loaded(t, ramp(1), ramp(2), ramp(3))
	for _, w := range []api.SectorWrite{{At: 2, Data: ramp(4)}, {At: 0, Data: ramp(5)}, {At: 2, Data: ramp(6)}, {At: 0, Data: ramp(1)}} {
		wants(t, "Write", d.Write(w.At, w.Data), api.OK)
	}
	images(t, d, ramp(1), ramp(2), ramp(3))
	wants(t, "Flush", d.Flush(), api.OK)
	images(t, d, ramp(1), ramp(2), ramp(6))
	pends(t, d)
	stats(t, d, api.DiskStat{Writes: 4, Flushes: 1})
	crashes(t, d, nil, 0)
	images(t, d, ramp(1), ramp(2), ramp(6))
}

func TestP204NothingPendingIsAnOperation(t *testing.T) {
	d := made(t, 1)
	wants(t, "Cut", d.Cut(2), api.OK)
	wants(t, "Flush", d.Flush(), api.OK)
	wants(t, "Flush", d.Flush(), api.OK)
	stats(t, d, api.DiskStat{Flushes: 2})
	wants(t, "Flush", d.Flush(), api.ErrPower)
	wants(t, "Flush without power", d.Flush(), api.ErrPower)
	stats(t, d, api.DiskStat{Flushes: 2, Down: true})
}

func TestP204WithoutPower(t *testing.T) {
	d := down(t, 1, api.SectorWrite{At: 0, Data: all(1)})
	wants(t, "Flush", d.Flush(), api.ErrPower)
	images(t, d, all(0))
	pends(t, d, api.SectorWrite{At: 0, Data: all(1)})
	stats(t, d, api.DiskStat{Writes: 1, Pending: 1, Down: true})
}

func TestP205Arguments(t *testing.T) {
	on := made(t, 1)
	off := down(t, 1)
	for _, after := range []int{-1, -2, math.MinInt} {
		wants(t, "Cut below 0", on.Cut(after), api.ErrArg)
		wants(t, "Cut below 0, without power", off.Cut(after), api.ErrArg)
	}
	for range 9 {
		wants(t, "Flush behind a refused Cut", on.Flush(), api.OK)
	}
	for _, after := range []int{0, 1, math.MaxInt} {
		wants(t, "Cut without power", off.Cut(after), api.ErrPower)
	}
	wants(t, "Cut", on.Cut(1), api.OK)
	wants(t, "Cut below 0", on.Cut(-1), api.ErrArg)
	wants(t, "Flush", on.Flush(), api.OK)
	wants(t, "Flush", on.Flush(), api.ErrPower)
}

func TestP205JustSoMany(t *testing.T) {
	for after := range 12 {
		d := made(t, 2)
		wants(t, "Flush", d.Flush(), api.OK)
		wants(t, "Cut", d.Cut(after), api.OK)
		for i := range after {
			if i%3 == 2 {
				wants(t, "Flush", d.Flush(), api.OK)
			} else {
				wants(t, "Write", d.Write(i%2, all(byte(i))), api.OK)
			}
			reads(t, d, 0, all(lastAt(0, i)))
		}
		stats(t, d, api.DiskStat{Writes: after - after/3, Flushes: after/3 + 1, Pending: after % 3})
		before := d.Image()
		wants(t, "the operation behind them", d.Write(0, all(99)), api.ErrPower)
		for range 3 {
			refuses(t, d, 0, api.ErrPower)
			wants(t, "Write", d.Write(1, all(1)), api.ErrPower)
			wants(t, "Flush", d.Flush(), api.ErrPower)
			wants(t, "Cut", d.Cut(4), api.ErrPower)
		}
		stats(t, d, api.DiskStat{Writes: after - after/3, Flushes: after/3 + 1, Pending: after % 3, Down: true})
		images(t, d, before)
	}
}

// lastAt: what TestP205JustSoMany wrote last to a sector when its step i is done.
func lastAt(at, i int) byte {
	for ; i >= 0; i-- {
		if i%3 != 2 && i%2 == at {
			return byte(i)
		}
	}
	return 0
}

func TestP205TheLaterCounts(t *testing.T) {
	for _, c := range []struct{ first, second, left int }{{5, 0, 0}, {0, 5, 5}, {0, 2, 2}, {3, 3, 3}, {math.MaxInt, 1, 1}, {1, 4, 4}} {
		d := made(t, 1)
		wants(t, "Cut", d.Cut(c.first), api.OK)
		wants(t, "Cut", d.Cut(c.second), api.OK)
		for range c.left {
			wants(t, "Flush", d.Flush(), api.OK)
		}
		wants(t, "Flush", d.Flush(), api.ErrPower)
	}
	d := made(t, 1)
	wants(t, "Cut", d.Cut(0), api.OK)
	wants(t, "Cut", d.Cut(math.MaxInt), api.OK)
	for range 1000 {
		wants(t, "Flush", d.Flush(), api.OK)
	}
	wants(t, "Cut", d.Cut(1), api.OK)
	wants(t, "Flush", d.Flush(), api.OK)
	wants(t, "Cut", d.Cut(1), api.OK)
	wants(t, "Flush", d.Flush(), api.OK)
	wants(t, "Flush", d.Flush(), api.ErrPower)
}

func TestP205CutIsNoOperation(t *testing.T) {
	d := made(t, 1)
	wants(t, "Write", d.Write(0, all(1)), api.OK)
	for range 5 {
		wants(t, "Cut", d.Cut(1), api.OK)
	}
	stats(t, d, api.DiskStat{Writes: 1, Pending: 1})
	reads(t, d, 0, all(1))
	images(t, d, all(0))
	wants(t, "Flush", d.Flush(), api.OK)
	images(t, d, all(1))
}
