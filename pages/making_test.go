package pages_test

import (
	"bytes"
	"math"
	"testing"

	"trellis/api"
	"trellis/disk"
	"trellis/pages"
	"trellis/wal"
)

// places: sizes of a log and of pages for which a disk of 16 sectors has no room, or that are none.
var places = [][2]int{
	{3, 1}, {0, 1}, {-4, 1}, {math.MinInt, 1}, {4, 0}, {4, -1}, {4, math.MinInt}, {4, 12}, {14, 2}, {15, 1}, {16, 1}, {13, 3}, {4, 1025}, {4, 4096},
	{math.MaxInt, 1}, {math.MaxInt, math.MaxInt}, {1, math.MaxInt}, {4, math.MaxInt}, {math.MaxInt - 1, 3}, {math.MaxInt - 1024, 1024}, {math.MinInt, math.MinInt}, {1 << 62, 1 << 62}, {0, 0},
}

func TestP401NilDisk(t *testing.T) {
	for _, p := range append([][2]int{{4, 1}, {12, 20}}, places...) {
		wants(t, "Format of no disk", pages.Format(nil, p[0], p[1]), api.ErrArg)
	}
	refuses(t, nil, api.ErrArg)
}

func TestP402Arguments(t *testing.T) {
	for _, down := range []bool{false, true} {
		d := formatted(t, 16, 8, 4)
		if down {
			off(t, d)
		}
		still := idle(t, d)
		for _, p := range places {
			wants(t, "Format", pages.Format(d, p[0], p[1]), api.ErrArg)
		}
		still()
		if down {
			wants(t, "Format", pages.Format(d, 8, 4), api.ErrPower)
			refuses(t, d, api.ErrPower)
			still()
		}
	}
}

func TestP402Bounds(t *testing.T) {
	for _, p := range [][3]int{{6, 4, 1}, {16, 4, 11}, {16, 14, 1}, {16, 9, 6}, {1029, 4, 1024}, {4096, 4094, 1}, {4096, 3071, 1024}} {
		d := littered(t, p[0])
		wants(t, "Format", pages.Format(d, p[1], p[2]), api.OK)
		stands(t, opens(t, d), api.PageStat{Pages: p[2], Log: logOf(p[1]-2, 1, 1, 1, 0)})
	}
	for _, p := range [][3]int{{5, 4, 1}, {16, 4, 12}, {16, 15, 1}, {1028, 4, 1024}, {4096, 4, 1025}, {4096, 4095, 1}, {4096, 3072, 1024}} {
		wants(t, "Format", pages.Format(littered(t, p[0]), p[1], p[2]), api.ErrArg)
	}
}

// formatting: the acts of Format.
func formatting(log, count int) []operation {
	ops := []operation{{0, make([]byte, size)}, {}, {1, make([]byte, size)}, {2, make([]byte, size)}, {}}
	for i := range log - 2 {
		ops = append(ops, operation{3 + i, make([]byte, size)})
	}
	ops = append(ops, operation{}, operation{1, headOf(1, 1, 2, 1, log)}, operation{})
	for p := range count {
		ops = append(ops, operation{1 + log + p, homeOf(p, full(0))})
	}
	return append(ops, operation{}, operation{0, labelOf(log, count).bytes()}, operation{})
}

// TestP402Acts: what is written where, in which order; sectors behind the homes are left alone.
func TestP402Acts(t *testing.T) {
	for _, p := range [][3]int{{6, 4, 1}, {9, 4, 3}, {24, 12, 8}, {24, 5, 18}} {
		begin := func() (*disk.Disk, func() api.Errno) {
			d := littered(t, p[0])
			return d, func() api.Errno { return pages.Format(d, p[1], p[2]) }
		}
		does(t, begin, formatting(p[1], p[2]))
	}
}

// TestP402BrokenOff: no store, the whole new one, or the older one as it was: that, where the power goes no later than at the first flush.
func TestP402BrokenOff(t *testing.T) {
	begin := func() *disk.Disk {
		d := formatted(t, 24, 8, 6)
		s := opens(t, d)
		commits(t, s, run(0, 3, 1), 0, true, 1)
		settles(t, s, 1, 1)
		commits(t, s, run(5, 1, 9), 0, true, 5)
		return d
	}
	older := contents(t, opens(t, begin()))
	acts := len(formatting(8, 6))
	for power := range acts + 1 {
		for keep := range 4 {
			d := begin()
			d.Cut(power)
			code := pages.Format(d, 8, 6)
			wants(t, "Format", code, map[bool]api.Errno{true: api.OK, false: api.ErrPower}[power == acts])
			d.Crash([]bool{keep&1 > 0, keep&2 > 0, true, keep > 1, true, true, true})
			kept := keep&1 > 0
			switch {
			case power == 0 || power == 1 && !kept:
				if s := opens(t, d); !bytes.Equal(contents(t, s), older) {
					t.Errorf("power for %d acts: the older store is another one", power)
				}
			case power == acts || power == acts-1 && kept:
				s := opens(t, d)
				stands(t, s, api.PageStat{Pages: 6, Log: logOf(6, 1, 1, 1, 0)})
				if !bytes.Equal(contents(t, s), make([]byte, 6*whole)) {
					t.Errorf("power for %d acts: the new store is not empty", power)
				}
			default:
				refuses(t, d, api.ErrNoStore)
			}
		}
	}
}

func TestP402OverAnOlderStore(t *testing.T) {
	d := formatted(t, 24, 8, 6)
	commits(t, opens(t, d), run(0, 2, 1), 0, true, 1)
	wants(t, "Format", pages.Format(d, 10, 9), api.OK)
	s := opens(t, d)
	stands(t, s, api.PageStat{Pages: 9, Log: logOf(8, 1, 1, 1, 0)})
	if !bytes.Equal(contents(t, s), make([]byte, 9*whole)) {
		t.Errorf("a new store is not empty")
	}
}

// TestP403Labels: what is a label, and what is none, of a disk of 24 sectors. ErrLogForm: it is one, and there is no log of that length.
func TestP403Labels(t *testing.T) {
	d := formatted(t, 24, 8, 6)
	good := labelOf(8, 6)
	for _, c := range []struct {
		say  func(*labelSays)
		want api.Errno
	}{
		{func(l *labelSays) {}, api.OK},
		{func(l *labelSays) { l.tail = 7 }, api.OK},
		{func(l *labelSays) { l.pages = 1 }, api.OK},
		{func(l *labelSays) { l.pages = 15 }, api.OK},
		{func(l *labelSays) { l.pages = 16 }, api.ErrNoStore},
		{func(l *labelSays) { l.pages = 0 }, api.ErrNoStore},
		{func(l *labelSays) { l.pages = 1025 }, api.ErrNoStore},
		{func(l *labelSays) { l.pages = math.MaxUint32 }, api.ErrNoStore},
		{func(l *labelSays) { l.pages = 1 << 31 }, api.ErrNoStore},
		{func(l *labelSays) { l.log = 9 }, api.ErrLogForm},
		{func(l *labelSays) { l.log = 4 }, api.ErrLogForm},
		{func(l *labelSays) { l.log = 17 }, api.ErrLogForm},
		{func(l *labelSays) { l.log = 18 }, api.ErrNoStore},
		{func(l *labelSays) { l.log = 3 }, api.ErrNoStore},
		{func(l *labelSays) { l.log = 0 }, api.ErrNoStore},
		{func(l *labelSays) { l.log = math.MaxUint32 }, api.ErrNoStore},
		{func(l *labelSays) { l.log = math.MaxUint32 - 6 }, api.ErrNoStore},
		{func(l *labelSays) { l.log, l.pages = math.MaxUint32, math.MaxUint32 }, api.ErrNoStore},
		{func(l *labelSays) { l.magic = "trellis1" }, api.ErrNoStore},
		{func(l *labelSays) { l.magic = "Trellis2" }, api.ErrNoStore},
		{func(l *labelSays) { l.magic = "trellis3" }, api.ErrNoStore},
		{func(l *labelSays) { l.turnedInSum = 1 }, api.ErrNoStore},
		{func(l *labelSays) { l.turnedInSum = 1 << 31 }, api.ErrNoStore},
	} {
		l := good
		c.say(&l)
		at := loaded(t, replaced(d, 0, l.bytes()))
		s, code := pages.Open(at)
		if code != c.want || (s == nil) != (code != api.OK) {
			t.Errorf("Open of %+v = %v, %d, want %d", l, s, code, c.want)
		}
		if code == api.OK {
			stands(t, s, api.PageStat{Pages: int(l.pages), Log: logOf(6, 1, 1, 1, 0)})
		}
		if code == api.ErrNoStore && at.Stat() != (api.DiskStat{}) {
			t.Errorf("Open of %+v has done %+v", l, at.Stat())
		}
	}
}

// TestP403ThousandPages: of a disk that has room for more, a label says no more than MaxPages.
func TestP403ThousandPages(t *testing.T) {
	d := formatted(t, 1100, 8, 1024)
	stands(t, opens(t, d), api.PageStat{Pages: 1024, Log: logOf(6, 1, 1, 1, 0)})
	refuses(t, loaded(t, replaced(d, 0, labelOf(8, 1025).bytes())), api.ErrNoStore)
	refuses(t, littered(t, 1100), api.ErrNoStore)
	refuses(t, loaded(t, make([]byte, size)), api.ErrNoStore)
}

func TestP403SpoiltLabel(t *testing.T) {
	d := formatted(t, 24, 8, 6)
	for bit := range 8 * size {
		b := d.Image()
		b[bit/8] ^= 1 << (bit % 8)
		refuses(t, loaded(t, b), api.ErrNoStore)
	}
}

// TestP403LogErrors: what wal's Open answers is the answer.
func TestP403LogErrors(t *testing.T) {
	d := formatted(t, 24, 8, 6)
	refuses(t, loaded(t, replaced(d, 1, make([]byte, size))), api.ErrLogForm)
	refuses(t, loaded(t, replaced(d, 1, headOf(maxRound, 1, 2, 1, 8))), api.ErrLogFull)
	refuses(t, loaded(t, replaced(d, 1, headOf(1, 1, maxTurn, 1, 8))), api.ErrLogFull)
	stands(t, opens(t, loaded(t, replaced(d, 1, headOf(maxRound-1, 9, 4, 1, 8)))), api.PageStat{Pages: 6, Log: logOf(6, 9, 9, 9, 0)})
}

// TestP403Records: which records are a commit's in a store of 6 pages, and which are none.
func TestP403Records(t *testing.T) {
	short := func(b []byte, less int) []byte { return b[:len(b)-less] }
	one := payloadOf(image(5, 1))
	says := func(count byte, b []byte) []byte { return append([]byte{b[0], count}, b[2:]...) }
	for i, c := range []struct {
		kind int
		data []byte
		want api.Errno
	}{
		{1, one, api.OK},
		{1, payloadOf(run(0, 6, 1)...), api.OK},
		{2, one, api.ErrNoStore},
		{255, one, api.ErrNoStore},
		{1, nil, api.ErrNoStore},
		{1, []byte{0}, api.ErrNoStore},
		{1, []byte{0, 0}, api.ErrNoStore},
		{1, []byte{0, 1}, api.ErrNoStore},
		{1, []byte{1, 1}, api.ErrNoStore},
		{1, []byte{255, 255}, api.ErrNoStore},
		{1, short(one, 1), api.ErrNoStore},
		{1, short(one, 120), api.ErrNoStore},
		{1, append(payloadOf(image(5, 1)), 0), api.ErrNoStore},
		{1, append(payloadOf(image(5, 1)), full(3)...), api.ErrNoStore},
		{1, says(2, one), api.ErrNoStore},
		{1, says(0, one), api.ErrNoStore},
		{1, says(1, payloadOf(run(0, 2, 1)...)), api.ErrNoStore},
		{1, says(3, payloadOf(run(0, 2, 1)...)), api.ErrNoStore},
		{1, append([]byte{1}, one[1:]...), api.ErrNoStore},
		{1, payloadOf(image(6, 1)), api.ErrNoStore},
		{1, payloadOf(image(65535, 1)), api.ErrNoStore},
		{1, payloadOf(image(256+5, 1)), api.ErrNoStore},
		{1, payloadOf(image(0, 1), image(6, 1)), api.ErrNoStore},
		{1, payloadOf(image(0, 1), image(0, 1)), api.ErrNoStore},
		{1, payloadOf(image(0, 1), image(2, 2), image(0, 3)), api.ErrNoStore},
	} {
		ahead, behind := commitRecord(image(0, 8)), commitRecord(image(1, 9))
		this := api.LogRec{Kind: c.kind, Data: c.data}
		for _, records := range [][]api.LogRec{{this}, {ahead, this}, {this, behind}, {ahead, this, behind}} {
			d := withRecords(t, formatted(t, 40, 20, 6), 20, records...)
			before := d.Stat()
			s, code := pages.Open(d)
			if code != c.want || (s == nil) != (code != api.OK) {
				t.Errorf("case %d: Open of %d records = %v, %d, want %d", i, len(records), s, code, c.want)
			}
			if code == api.OK && s.Stat().Redone != len(records) {
				t.Errorf("case %d: %d of %d records were played again", i, s.Stat().Redone, len(records))
			}
			if now := d.Stat(); now.Writes != before.Writes+1 || now.Flushes != before.Flushes+1 || now.Pending != 0 {
				t.Errorf("case %d: Open has done %+v, before it were %+v", i, now, before)
			}
		}
	}
}

// TestP403GreatRecords: the greatest commit is played again; one page more is none of a commit.
func TestP403GreatRecords(t *testing.T) {
	d := withRecords(t, formatted(t, 1400, 320, 1024), 320, commitRecord(run(700, 256, 3)...))
	s := opens(t, d)
	stands(t, s, api.PageStat{Pages: 1024, Dirty: 256, Redone: 1, Oldest: 1, Log: logOf(318, 1, 302, 302, 0)})
	for i := range 256 {
		holds(t, s, 700+i, full(3+byte(i)))
	}
	refuses(t, withRecords(t, formatted(t, 1400, 320, 1024), 320, commitRecord(run(700, 257, 3)...)), api.ErrNoStore)
}

// TestP403PlayedAgain: contents, dirty pages and firsts follow from the records in their order.
func TestP403PlayedAgain(t *testing.T) {
	d := withRecords(t, formatted(t, 64, 20, 12), 20,
		commitRecord(image(7, 1), image(2, 2)), commitRecord(image(2, 3), image(0, 4)), commitRecord(image(7, 5)), commitRecord(image(9, 6), image(7, 7)))
	d.Write(21+9, homeOf(9, full(99)))
	d.Write(21+1, homeOf(1, full(98)))
	s := opens(t, d)
	stands(t, s, api.PageStat{Pages: 12, Dirty: 4, Redone: 4, Oldest: 1, Log: logOf(18, 1, 12, 12, 0)})
	for page, b := range []byte{4, 98, 3, 0, 0, 0, 0, 7, 0, 6, 0, 0} {
		holds(t, s, page, full(b))
	}
	got := firsts(t, d)
	want := []first{{2, 1}, {7, 1}, {0, 4}, {9, 9}}
	if len(got) != len(want) || got[0] != want[0] || got[1] != want[1] || got[2] != want[2] || got[3] != want[3] {
		t.Errorf("the dirty pages are %v, want %v", got, want)
	}
	wants(t, "Reserve", s.Reserve(5), api.OK)
	if n := opens(t, d).Stat().Log.Reserved; n != 0 {
		t.Errorf("behind Open %d sectors are set aside", n)
	}
}

// TestP403Acts: one write and one flush, however much there is to be played again.
func TestP403Acts(t *testing.T) {
	for _, n := range []int{0, 1, 5} {
		begin := func() (*disk.Disk, func() api.Errno) {
			d := formatted(t, 64, 12, 20)
			s := opens(t, d)
			for i := range n {
				commits(t, s, run(i, 1, 7), 0, true, int64(1+2*i))
			}
			return d, func() api.Errno {
				_, code := pages.Open(d)
				return code
			}
		}
		does(t, begin, []operation{{1, headOf(3, 1, 4, 1, 12)}, {}})
	}
}

// TestP402And403NoWriteElsewhere: whatever a store does, sectors behind its homes stay.
func TestP402And403NoWriteElsewhere(t *testing.T) {
	d, s := made(t)
	for i := range 12 {
		if lsn, _ := s.Commit(run(i, 4, byte(i)), 0, i%2 == 0); lsn == 0 {
			t.Errorf("commit %d is refused", i)
		}
		s.Checkpoint(9)
	}
	behind := (1 + 12 + 20) * size
	if !bytes.Equal(d.Image()[behind:], littered(t, 64).Image()[behind:]) {
		t.Errorf("a sector behind the homes was written")
	}
	if l, code := wal.Open(d, 1, 12); code != api.OK || l.Stat().Live != 0 {
		t.Errorf("the log does not lie at sector 1: %d", code)
	}
}
