package txn_test

import (
	"encoding/binary"
	"math"
	"testing"

	"trellis/api"
	"trellis/disk"
	"trellis/records"
	"trellis/txn"
	"trellis/wal"
)

// spoilt: a store whose pages have, here and there, other bytes than were written, with the right sums.
func spoilt(d draw, image []byte, logSectors int) *records.Store {
	out := append([]byte(nil), image...)
	pages := len(out)/api.SectorSize - 1 - logSectors
	for range 1 + d.Intn(3) {
		page := 1 + d.Intn(pages-1) // page 0 says how large the store is
		home := out[(1+logSectors+page)*api.SectorSize:][:api.SectorSize]
		for range 1 + d.Intn(4) {
			home[8+d.Intn(api.PageBytes)] = pick(d, byte(0), 1, 2, 3, 5, 255, byte(d.Intn(256)))
		}
		binary.BigEndian.PutUint32(home, wal.Sum(home[4:]))
	}
	at, _ := disk.Load(out)
	s, _ := records.Open(at)
	return s
}

// TestP1402Spoilt: over a store that somebody else has written to each call ends and none panics; nothing is told beside an error.
func TestP1402Spoilt(t *testing.T) {
	w := filled(t, "create (a:n {k: 1})-[:r {w: 1}]->(:n {k: 2})-[:r]->(:m {k: 3, j: 1})-[:s]->(a) create (:o)-[:s {w: 2}]->(a)", "create (:rule {kind: 'most', of: 'r', n: 3})")
	w.s.Checkpoint(api.MaxPages)
	image := w.d.Image()
	codes := map[api.Errno]int{}
	for seed := range int64(1500) {
		d := newDraw(seed)
		s := spoilt(d, image, 400)
		if s == nil {
			continue
		}
		m := txn.New(s)
		for id := 1; id <= 4; id++ {
			m.Begin(id, int64(id), program(t, d.program()), false)
		}
		for range 40 {
			id := 1 + d.Intn(4)
			step, code := m.Step(id)
			if code != api.OK && told(step) != told(api.Step{}) {
				t.Fatalf("seed %d: %+v beside the error %d", seed, step, code)
			}
			if step.What == api.TFailed {
				codes[step.Code]++
			}
			m.Waits()
			m.Tables(id)
		}
	}
	if len(codes) < 6 {
		t.Errorf("too few kinds of faults: %v", codes)
	}
}

// TestP1402Wild: any numbers at any time: each call ends, and what is not known is refused.
func TestP1402Wild(t *testing.T) {
	numbers := []int{math.MinInt, -1, 0, 1, 2, 3, 1 << 33, math.MaxInt}
	for seed := range int64(60) {
		d := newDraw(seed)
		w := chapter(t)
		for range 150 {
			id, stamp := pick(d, numbers...), int64(pick(d, numbers...))
			_, code := w.m.Stat(id)
			known := code == api.OK
			switch d.Intn(8) {
			case 0, 1:
				list := program(t, d.program())
				if d.one(5) {
					list = append(list, api.Query{})
				}
				if code := w.m.Begin(id, stamp, list, false); code == api.OK && (known || id < 1 || stamp < 1) {
					t.Fatalf("Begin(%d, %d): OK", id, stamp)
				}
			case 2:
				if code := w.m.Forget(id); known == (code == api.ErrNoTxn) {
					t.Fatalf("Forget(%d): %d, known: %v", id, code, known)
				}
			case 3:
				if list, code := w.m.Tables(id); known == (code == api.ErrNoTxn) || !known && len(list) > 0 {
					t.Fatalf("Tables(%d): %d, known: %v", id, code, known)
				}
			default:
				if s, code := w.m.Step(id); known == (code == api.ErrNoTxn) || code != api.OK && told(s) != told(api.Step{}) {
					t.Fatalf("Step(%d): %+v, %d, known: %v", id, s, code, known)
				}
			}
		}
	}
}
