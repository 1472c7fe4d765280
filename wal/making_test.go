package wal_test

import (
	"bytes"
	"math"
	"testing"

	"trellis/api"
	"trellis/disk"
	"trellis/wal"
)

func TestP301NilDisk(t *testing.T) {
	for _, p := range append([][2]int{{0, 4}, {2, 6}, {0, 0}}, places...) {
		wants(t, "Format of no disk", wal.Format(nil, p[0], p[1]), api.ErrArg)
		refuses(t, nil, p[0], p[1], api.ErrArg)
	}
}

func TestP301NilLog(t *testing.T) {
	var l *wal.Log
	for _, n := range []int{0, 1, -1, 4, math.MaxInt, math.MinInt} {
		for _, reserved := range []bool{false, true} {
			rejects(t, l, n, nil, reserved, api.ErrArg)
			rejects(t, l, 1, filled(1, max(0, min(n, maxBytes+1))), reserved, api.ErrArg)
		}
		wants(t, "Cut", l.Cut(int64(n)), api.ErrArg)
		wants(t, "Reserve", l.Reserve(n), api.ErrArg)
		wants(t, "Release", l.Release(n), api.ErrArg)
	}
	wants(t, "Flush", l.Flush(), api.ErrArg)
	holds(t, l)
	if s := l.Stat(); s != (api.LogStat{}) {
		t.Errorf("Stat of a nil log = %+v", s)
	}
}

func TestP304And305Arguments(t *testing.T) {
	for _, down := range []bool{false, true} {
		d := formatted(t, 16, 2, 6)
		if down {
			off(t, d)
		}
		still := idle(t, d)
		for _, p := range places {
			wants(t, "Format", wal.Format(d, p[0], p[1]), api.ErrArg)
			refuses(t, d, p[0], p[1], api.ErrArg)
		}
		still()
		if down {
			wants(t, "Format", wal.Format(d, 2, 6), api.ErrPower)
			refuses(t, d, 2, 6, api.ErrPower)
			refuses(t, d, 2, 7, api.ErrPower)
			still()
		}
	}
}

// operation: one act on a disk: a write, or a flush (no data).
type operation struct {
	at   int
	data []byte
}

// formatting: the acts of Format.
func formatting(start, n int) []operation {
	ops := []operation{{start, zeros()}, {start + 1, zeros()}, {}}
	for i := range n - 2 {
		ops = append(ops, operation{start + 2 + i, zeros()})
	}
	return append(ops, operation{}, operation{start, headOf(1, 1, 2, 1, n).bytes()}, operation{})
}

// does: the acts of a call are just these, in this order: it is tried with power for each number of them. begin: a disk and the call.
func does(t *testing.T, begin func() (*disk.Disk, func() api.Errno), ops []operation) {
	t.Helper()
	for power := range len(ops) + 1 {
		got, call := begin()
		want, _ := begin()
		for _, op := range ops[:power] {
			if op.data == nil {
				wants(t, "Flush", want.Flush(), api.OK)
			} else {
				wants(t, "Write", want.Write(op.at, op.data), api.OK)
			}
		}
		got.Cut(power)
		code := api.OK
		if power < len(ops) {
			code = api.ErrPower
		}
		wants(t, "the call", call(), code)
		if s := got.Stat(); s.Down != (power < len(ops)) || s.Writes != want.Stat().Writes || s.Flushes != want.Stat().Flushes {
			t.Errorf("with power for %d acts the disk has done %+v, want %+v", power, s, want.Stat())
		}
		pends(t, got, want.Pending()...)
		if !bytes.Equal(got.Image(), want.Image()) {
			t.Errorf("with power for %d acts the disk has other bytes than are wanted", power)
		}
	}
}

func TestP304Acts(t *testing.T) {
	for _, p := range [][3]int{{4, 0, 4}, {5, 1, 4}, {6, 1, 4}, {16, 2, 6}, {16, 0, 16}, {16, 12, 4}, {16, 9, 7}} {
		begin := func() (*disk.Disk, func() api.Errno) {
			d := dirty(t, p[0])
			return d, func() api.Errno { return wal.Format(d, p[1], p[2]) }
		}
		does(t, begin, formatting(p[1], p[2]))
	}
}

func TestP304OverAnOlderLog(t *testing.T) {
	d := formatted(t, 10, 1, 8)
	l := opens(t, d, 1, 8)
	appends(t, l, 3, filled(3, 300), false, 1)
	wants(t, "Flush", l.Flush(), api.OK)
	wants(t, "Format", wal.Format(d, 1, 8), api.OK)
	l = opens(t, d, 1, 8)
	holds(t, l)
	stands(t, l, 1, 1, 1, 0, 6)
	reads(t, d, 2, headOf(2, 1, 3, 1, 8).bytes())
}

// TestP304BrokenOff: behind a Format that the power broke off there is no log, an empty one, or the older one.
func TestP304BrokenOff(t *testing.T) {
	make := func() *disk.Disk {
		d := formatted(t, 8, 1, 6)
		l := opens(t, d, 1, 6)
		appends(t, l, 3, filled(3, 150), false, 1)
		wants(t, "Flush", l.Flush(), api.OK)
		appends(t, opens(t, d, 1, 6), 4, nil, false, 3)
		wants(t, "Flush", d.Flush(), api.OK)
		return d
	}
	full := []api.LogRec{rec(1, 3, filled(3, 150)), rec(3, 4, nil)}
	acts := len(formatting(1, 6))
	for power := range acts + 1 {
		for keep := range 16 {
			d := make()
			d.Cut(power)
			wal.Format(d, 1, 6)
			d.Crash([]bool{keep&1 > 0, keep&2 > 0, keep&4 > 0, keep&8 > 0})
			firstGone := power > 2 || power >= 1 && keep&1 > 0
			secondGone := power > 2 || power >= 2 && keep&2 > 0
			l, code := wal.Open(d, 1, 6)
			switch {
			case power == acts || power == acts-1 && keep&1 > 0:
				wants(t, "Open", code, api.OK)
				holds(t, l)
			case firstGone && secondGone:
				wants(t, "Open", code, api.ErrLogForm)
			case firstGone: // the newer head stood there; the older one is of a lesser round than the last record
				wants(t, "Open", code, api.OK)
				holds(t, l, full[:1]...)
			default:
				wants(t, "Open", code, api.OK)
				holds(t, l, full...)
			}
		}
	}
}

func TestP305EmptyLog(t *testing.T) {
	for _, p := range [][3]int{{4, 0, 4}, {5, 1, 4}, {16, 2, 6}, {16, 0, 16}, {16, 12, 4}, {4096, 0, 4096}, {4096, 100, 3996}} {
		d := formatted(t, p[0], p[1], p[2])
		for round := range int64(5) {
			l := opens(t, d, p[1], p[2])
			holds(t, l)
			stands(t, l, 1, 1, 1, 0, p[2]-2)
			reads(t, d, p[1]+1-int(round%2), headOf(2+round, 1, 3+round, 1, p[2]).bytes())
			pends(t, d)
		}
	}
}

func TestP305NoLog(t *testing.T) {
	for _, d := range []*disk.Disk{made(t, 16), dirty(t, 16), formatted(t, 16, 2, 6)} {
		still := idle(t, d)
		for _, p := range [][2]int{{0, 6}, {1, 6}, {3, 6}, {2, 5}, {2, 7}, {0, 4}, {12, 4}, {0, 16}} {
			refuses(t, d, p[0], p[1], api.ErrLogForm)
		}
		still()
	}
}

func TestP305Acts(t *testing.T) {
	for turn := int64(2); turn < 6; turn++ {
		begin := func() (*disk.Disk, func() api.Errno) {
			d := formatted(t, 10, 3, 6)
			for range turn - 2 {
				opens(t, d, 3, 6)
			}
			return d, func() api.Errno {
				l, code := wal.Open(d, 3, 6)
				if (l == nil) != (code != api.OK) {
					t.Errorf("Open = %v, %d", l, code)
				}
				return code
			}
		}
		does(t, begin, []operation{{3 + int(turn+1)%2, headOf(turn, 1, turn+1, 1, 6).bytes()}, {}})
	}
}

// twoHeads: a disk with a log of six sectors at 0 and one sector behind it, with those two heads and an empty ring.
func twoHeads(t *testing.T, first, second []byte) *disk.Disk {
	t.Helper()
	return crafted(t, first, second, zeros(), zeros(), zeros(), zeros(), zeros())
}

// TestP305WhatIsAHead: each field at its bounds and beyond them, alone and beside a good head.
func TestP305WhatIsAHead(t *testing.T) {
	good := headOf(7, 20, 9, 3, 6)
	for i, c := range []struct {
		turn func(*headSays)
		ok   bool
	}{
		{func(h *headSays) {}, true},
		{func(h *headSays) { h.turnedInSum = 1 }, false},
		{func(h *headSays) { h.turnedInSum = 1 << 31 }, false},
		{func(h *headSays) { h.round = 0 }, false},
		{func(h *headSays) { h.round, h.floor = 0, 0 }, false},
		{func(h *headSays) { h.round, h.floor = 1, 1 }, true},
		{func(h *headSays) { h.round = uint32(maxRound) - 1 }, true},
		{func(h *headSays) { h.round = uint32(maxRound) + 1 }, false},
		{func(h *headSays) { h.round = math.MaxUint32 }, false},
		{func(h *headSays) { h.lsn = 0 }, false},
		{func(h *headSays) { h.lsn = 1 }, true},
		{func(h *headSays) { h.lsn = uint64(maxLsn) }, true},
		{func(h *headSays) { h.lsn = uint64(maxLsn) + 1 }, false},
		{func(h *headSays) { h.lsn = 1 << 63 }, false},
		{func(h *headSays) { h.lsn = 1<<63 + 20 }, false},
		{func(h *headSays) { h.lsn = math.MaxUint64 }, false},
		{func(h *headSays) { h.turn = 1 }, true},
		{func(h *headSays) { h.turn = 0 }, false},
		{func(h *headSays) { h.turn = 8 }, false},
		{func(h *headSays) { h.turn = 10 }, false},
		{func(h *headSays) { h.turn = uint64(maxTurn) - 1 }, true},
		{func(h *headSays) { h.turn = uint64(maxTurn) + 1 }, false},
		{func(h *headSays) { h.turn = math.MaxUint64 }, false},
		{func(h *headSays) { h.turn = 1<<63 + 1 }, false},
		{func(h *headSays) { h.magic = "trellis2" }, false},
		{func(h *headSays) { h.magic = "Trellis1" }, false},
		{func(h *headSays) { h.magic = "\x00\x00\x00\x00\x00\x00\x00\x00" }, false},
		{func(h *headSays) { h.n = 5 }, false},
		{func(h *headSays) { h.n = 7 }, false},
		{func(h *headSays) { h.n = 1<<31 + 6 }, false},
		{func(h *headSays) { h.floor = 0 }, false},
		{func(h *headSays) { h.floor = 1 }, true},
		{func(h *headSays) { h.floor = 7 }, true},
		{func(h *headSays) { h.floor = 8 }, false},
		{func(h *headSays) { h.floor = 1<<31 + 3 }, false},
		{func(h *headSays) { h.tail = 5 }, true},
	} {
		h := good
		c.turn(&h)
		d := twoHeads(t, zeros(), h.bytes())
		if !c.ok {
			still := idle(t, d)
			refuses(t, d, 0, 6, api.ErrLogForm)
			still()
			d = twoHeads(t, headOf(1, 4, 2, 1, 6).bytes(), h.bytes())
			stands(t, opens(t, d, 0, 6), 4, 4, 4, 0, 4)
			reads(t, d, 1, headOf(2, 4, 3, 1, 6).bytes())
			continue
		}
		stands(t, opens(t, d, 0, 6), int64(h.lsn), int64(h.lsn), int64(h.lsn), 0, 4)
		reads(t, d, 0, headOf(int64(h.round)+1, int64(h.lsn), int64(h.turn)+1, int64(h.floor), 6).bytes())
		if t.Failed() {
			t.Fatalf("at head %d", i)
		}
	}
}

func TestP305TurnsOnTheWrongSector(t *testing.T) {
	for turn := int64(1); turn < 5; turn++ {
		h, other := headOf(7, 20, turn, 3, 6).bytes(), zeros()
		if turn%2 == 0 {
			stands(t, opens(t, twoHeads(t, h, other), 0, 6), 20, 20, 20, 0, 4)
			refuses(t, twoHeads(t, other, h), 0, 6, api.ErrLogForm)
		} else {
			stands(t, opens(t, twoHeads(t, other, h), 0, 6), 20, 20, 20, 0, 4)
			refuses(t, twoHeads(t, h, other), 0, 6, api.ErrLogForm)
		}
	}
}

// TestP305TheGreaterTurnHolds: whatever else the heads say.
func TestP305TheGreaterTurnHolds(t *testing.T) {
	for _, turns := range [][2]int64{{2, 1}, {2, 3}, {4, 3}, {4, 5}, {100, 3}, {2, 99}, {1 << 33, 1}, {2, 1<<33 + 1}} {
		for _, rounds := range [][2]int64{{5, 5}, {9, 5}, {5, 9}} {
			d := twoHeads(t, headOf(rounds[0], 11, turns[0], 2, 6).bytes(), headOf(rounds[1], 22, turns[1], 3, 6).bytes())
			l := opens(t, d, 0, 6)
			if turns[0] > turns[1] {
				stands(t, l, 11, 11, 11, 0, 4)
				reads(t, d, 1, headOf(rounds[0]+1, 11, turns[0]+1, 2, 6).bytes())
			} else {
				stands(t, l, 22, 22, 22, 0, 4)
				reads(t, d, 0, headOf(rounds[1]+1, 22, turns[1]+1, 3, 6).bytes())
			}
		}
	}
}

func TestP305LastRoundAndTurn(t *testing.T) {
	low := headOf(3, 5, 1, 1, 6).bytes()
	for _, h := range []headSays{headOf(maxRound, 5, 2, 1, 6), headOf(4, 5, maxTurn, 1, 6), headOf(maxRound, 5, maxTurn, 1, 6)} {
		for _, second := range [][]byte{zeros(), low} {
			d := twoHeads(t, h.bytes(), second)
			still := idle(t, d)
			refuses(t, d, 0, 6, api.ErrLogFull)
			still()
		}
	}
	d := twoHeads(t, headOf(maxRound-1, 5, maxTurn-2, 1, 6).bytes(), zeros())
	stands(t, opens(t, d, 0, 6), 5, 5, 5, 0, 4)
	reads(t, d, 1, headOf(maxRound, 5, maxTurn-1, 1, 6).bytes())
	refuses(t, d, 0, 6, api.ErrLogFull)
	d = twoHeads(t, zeros(), headOf(8, 5, maxTurn-1, 1, 6).bytes())
	opens(t, d, 0, 6)
	reads(t, d, 0, headOf(9, 5, maxTurn, 1, 6).bytes())
	refuses(t, d, 0, 6, api.ErrLogFull)
	d = twoHeads(t, headOf(maxRound, 5, 2, 1, 6).bytes(), headOf(8, 6, 3, 1, 6).bytes())
	stands(t, opens(t, d, 0, 6), 6, 6, 6, 0, 4)
}
