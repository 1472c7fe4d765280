package index_test

import (
	"math/rand/v2"
	"slices"
	"testing"

	"trellis/api"
	"trellis/disk"
	"trellis/index"
	"trellis/slots"
)

// TestP611Batch: the batch alone sees what it does, until its commit; behind a drop nothing of it is there.
func TestP611Batch(t *testing.T) {
	_, s, b := made(t, 30)
	second := newBook(30)
	for i := range 14 {
		act(t, b, second, true, i*5%14)
		inStep(t, s, newBook(30))
	}
	inStep(t, b, second)
	commits(t, b, false)
	inStep(t, s, second)

	b = begins(t, s)
	inStep(t, b, second)
	for _, x := range []int{3, 0, 13, 7, 8, 9} {
		deletes(t, b, x)
	}
	inserts(t, b, 100, 101, 102)
	inStep(t, s, second)
	wants(t, "Drop", b.Drop(), api.OK)
	inStep(t, s, second)
	inStep(t, begins(t, s), second)
}

// TestP611Sync: what was asked to last is found behind a loss of power; what was not, isn't there, wholly.
func TestP611Sync(t *testing.T) {
	d, s, b := made(t, 30)
	second := newBook(30)
	for i := range 12 {
		act(t, b, second, true, i)
	}
	commits(t, b, true)
	b = begins(t, s)
	for i := range 11 {
		deletes(t, b, i)
	}
	commits(t, b, false)
	grows(t, s, "1[11]")
	d.Crash(nil)
	s = opens(t, d)
	inStep(t, s, second)
	for i := range 11 { // and it goes on
		b = begins(t, s)
		act(t, b, second, false, i)
		commits(t, b, true)
		d.Crash(nil)
		s = opens(t, d)
		inStep(t, s, second)
	}
}

// world: a disk with a store, and a witness: what the index was behind each commit since it was opened (behind none first), and how many of these must be found.
type world struct {
	t      *testing.T
	d      *disk.Disk
	s      *slots.Store
	states []string
	sure   int
}

// revive: opens the store; the index must be what one of the commits left.
func (x *world) revive() {
	x.t.Helper()
	x.s = opens(x.t, x.d)
	sound(x.t, x.s)
	found := grown(x.t, x.s)
	if x.states != nil && !slices.Contains(x.states[x.sure:], found) {
		x.t.Fatalf("the index is %s, which none of the commits from %d to %d left", found, x.sure, len(x.states)-1)
	}
	x.states, x.sure = []string{found}, 0
}

// commit: a batch that inserts the keys above 0, and deletes those below; told to the witness.
func (x *world) commit(sync bool, xs ...int) {
	b, code := x.s.Begin()
	if code != api.OK {
		return
	}
	for _, x := range xs {
		if x > 0 {
			index.Insert(b, K(x))
		} else {
			index.Delete(b, K(-x))
		}
	}
	if _, code := b.Root(0); code != api.OK {
		return
	}
	will := grown(x.t, b)
	lsn, code := b.Commit(false, sync)
	if lsn > 0 || code == api.ErrPower {
		x.states = append(x.states, will)
	}
	if lsn > 0 && sync {
		x.sure = len(x.states) - 1
	}
	if code == api.OK {
		grows(x.t, x.s, will)
	}
}

func (x *world) checkpoint(most int) {
	if n, code := x.s.Checkpoint(most); code == api.OK && n > 0 {
		x.sure = len(x.states) - 1
	}
}

// scripted: a world in which the power goes behind so many acts of a script.
func scripted(t *testing.T, power int) *world {
	t.Helper()
	d, _, _ := made(t, 12)
	x := &world{t: t, d: d}
	x.revive()
	x.d.Cut(power)
	for _, call := range []func(){
		func() { x.commit(true, 1, 2, 3, 4) },
		func() { x.commit(false, 5) },
		func() { x.checkpoint(2) },
		func() { x.commit(true, 6, 7, 8, 9, 10) },
		func() { x.commit(false, -4, -5) },
		func() { x.commit(true, -1, -2, -3) },
		func() { x.checkpoint(9) },
		func() { x.commit(true, -6, -7, -8, -9, -10) },
	} {
		if !x.d.Stat().Down {
			call()
		}
	}
	return x
}

// keeps: choices of the unflushed writes: none, all, each alone, all but one, and some others.
func keeps(n int) [][]bool {
	r := rand.New(rand.NewPCG(uint64(n), 6))
	var out [][]bool
	for i := range 2*n + 8 {
		keep := make([]bool, n)
		for j := range keep {
			switch {
			case i < 2*n:
				keep[j] = (j == i/2) == (i%2 == 0)
			case i < 2*n+2:
				keep[j] = i == 2*n
			default:
				keep[j] = r.IntN(2) == 0
			}
		}
		out = append(out, keep)
	}
	return out
}

// TestP611EveryLoss: the power goes at each act of a script, and some of the unflushed writes are kept.
func TestP611EveryLoss(t *testing.T) {
	for power := 0; ; power++ {
		x := scripted(t, power)
		for _, keep := range keeps(x.d.Stat().Pending) {
			x := scripted(t, power)
			x.d.Crash(keep)
			x.revive()
		}
		if !x.d.Stat().Down {
			if power < 20 {
				t.Fatalf("the script does %d acts alone", power)
			}
			return
		}
	}
}

// TestP611Lives: lives of a store one behind the other, each ended by a crash.
func TestP611Lives(t *testing.T) {
	r := rand.New(rand.NewPCG(6, 11))
	d, _, _ := made(t, 40)
	x := &world{t: t, d: d}
	x.revive()
	for range 80 {
		x.d.Cut(r.IntN(60))
		for range 10 {
			if x.d.Stat().Down {
				break
			}
			var xs []int
			for range 1 + r.IntN(8) {
				xs = append(xs, r.IntN(81)-40)
			}
			x.commit(r.IntN(3) == 0, xs...)
			if r.IntN(3) == 0 {
				x.checkpoint(r.IntN(9))
			}
		}
		keep := make([]bool, x.d.Stat().Pending)
		for i := range keep {
			keep[i] = r.IntN(2) == 0
		}
		x.d.Crash(keep)
		x.revive()
	}
}
