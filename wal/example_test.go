package wal_test

import (
	"testing"

	"trellis/api"
	"trellis/disk"
	"trellis/wal"
)

func TestP303Example1(t *testing.T) {
	for n, want := range map[int]int{0: 1, 1: 1, 104: 1, 105: 2, 32768: 316, -1: 0, 32769: 0} {
		if got := wal.Need(n); got != want {
			t.Errorf("Need(%d) = %d, want %d", n, got, want)
		}
	}
}

// example: what the chapter's examples 3 to 6 do, up to the crash.
func example(t *testing.T) *disk.Disk {
	t.Helper()
	d := made(t, 16)
	wants(t, "Format", wal.Format(d, 2, 6), api.OK)
	l := opens(t, d, 2, 6)
	stands(t, l, 1, 1, 1, 0, 4)
	long := filled(1, 200)
	appends(t, l, 7, long, false, 1)
	for i, p := range partsOf(2, 1, 7, long) {
		reads(t, d, 4+i, p.bytes())
	}
	stands(t, l, 1, 3, 1, 0, 2)
	rejects(t, l, 7, filled(1, 209), false, api.ErrLogFull)
	appends(t, l, 9, nil, false, 3)
	wants(t, "Flush", l.Flush(), api.OK)
	stands(t, l, 1, 4, 4, 0, 1)
	wants(t, "Cut(2)", l.Cut(2), api.ErrLsn)
	wants(t, "Cut(3)", l.Cut(3), api.OK)
	stands(t, l, 3, 4, 4, 0, 3)
	long = filled(2, 200)
	appends(t, l, 7, long, false, 4)
	parts := partsOf(2, 4, 7, long)
	reads(t, d, 7, parts[0].bytes())
	reads(t, d, 4, parts[1].bytes())
	wants(t, "Reserve(1)", l.Reserve(1), api.OK)
	stands(t, l, 3, 6, 4, 1, 0)
	rejects(t, l, 1, nil, false, api.ErrLogFull)
	appends(t, l, 1, nil, true, 6)
	stands(t, l, 3, 7, 4, 0, 0)
	holds(t, l, rec(3, 9, nil), rec(4, 7, long), rec(6, 1, nil))
	return d
}

func TestP311Examples3To8(t *testing.T) {
	for _, keep := range [][]bool{nil, {false, true, true}, {false, true}, {false, false, true}, {true, false, true}, {true}} {
		d := example(t)
		if _, code := d.Crash(keep); code != api.OK {
			t.Fatalf("Crash = %d", code)
		}
		l := opens(t, d, 2, 6)
		holds(t, l, rec(3, 9, nil))
		stands(t, l, 3, 4, 4, 0, 3)
		refuses(t, d, 2, 7, api.ErrLogForm)
	}
	d := example(t)
	d.Crash([]bool{true, true})
	holds(t, opens(t, d, 2, 6), rec(3, 9, nil), rec(4, 7, filled(2, 200)))
}
