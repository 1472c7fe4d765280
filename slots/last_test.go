package slots_test

import (
	"fmt"
	"math/rand/v2"
	"slices"
	"testing"

	"trellis/api"
	"trellis/disk"
	"trellis/slots"
)

// world: a disk with a store, and a witness: what the store held behind each commit since it was opened (behind none first), and how many of these must be found.
type world struct {
	t      *testing.T
	r      *rand.Rand
	d      *disk.Disk
	s      *slots.Store
	states []string
	sure   int
}

// begun: a world with a store that was just opened.
func begun(t *testing.T, r *rand.Rand, log int, z api.Sizes) *world {
	t.Helper()
	x := &world{t: t, r: r, d: formatted(t, log, z)}
	x.revive()
	return x
}

// revive: opens the store; it must hold what some of the commits left.
func (x *world) revive() {
	x.t.Helper()
	x.s = opens(x.t, x.d)
	found := fmt.Sprint(held(x.t, x.s))
	if x.states != nil && !slices.Contains(x.states[x.sure:], found) {
		x.t.Fatalf("what is found was left by none of the commits from %d to %d: %s", x.sure, len(x.states)-1, found)
	}
	x.states, x.sure = []string{found}, 0
}

// told: an answer that says that all commits so far last.
func (x *world) told() { x.sure = len(x.states) - 1 }

// commit: told to the witness.
func (x *world) commit(sync bool, changes func(*slots.Batch)) {
	b, code := x.s.Begin()
	if code != api.OK {
		return
	}
	changes(b)
	will := fmt.Sprint(held(x.t, b))
	lsn, code := b.Commit(false, sync)
	if lsn > 0 || code == api.ErrPower {
		x.states = append(x.states, will)
	}
	if lsn > 0 && sync {
		x.told()
	}
	if now := fmt.Sprint(heldOrNone(x.t, x.s)); code != api.ErrPower && now != x.states[len(x.states)-1] {
		x.t.Fatalf("behind the commit the store has %s, want %s", now, x.states[len(x.states)-1])
	}
}

// heldOrNone: what the store holds; nothing, if it is dead.
func heldOrNone(t *testing.T, s *slots.Store) holding {
	if _, code := s.Root(0); code != api.OK {
		return holding{}
	}
	return held(t, s)
}

func (x *world) sync() {
	if x.s.Sync() == api.OK {
		x.told()
	}
}

func (x *world) checkpoint(most int) {
	if n, code := x.s.Checkpoint(most); code == api.OK && n > 0 {
		x.told()
	}
}

// crash: keeps some of the unflushed writes.
func (x *world) crash() {
	keep := make([]bool, x.d.Stat().Pending)
	for i := range keep {
		keep[i] = x.r.IntN(2) == 0
	}
	x.d.Crash(keep)
}

// some: changes of all sorts.
func (x *world) some(b *slots.Batch) {
	for range 1 + x.r.IntN(6) {
		kind := 1 + x.r.IntN(4)
		id := 1 + x.r.Int64N(capacityOf(b.Sizes(), kind))
		switch x.r.IntN(5) {
		case 0:
			b.SetRoot(x.r.IntN(8), x.r.Int64())
		case 1:
			b.Free(kind, id)
		case 2:
			b.Put(kind, id, filled(x.r.IntN(1000), lengthOf[kind]))
		default:
			if id, code := b.Alloc(kind); code == api.OK {
				b.Put(kind, id, filled(x.r.IntN(1000), lengthOf[kind]))
			}
		}
	}
}

// act: one call.
func (x *world) act() {
	switch x.r.IntN(8) {
	case 0:
		x.sync()
	case 1, 2:
		x.checkpoint(x.r.IntN(5))
	default:
		x.commit(x.r.IntN(3) == 0, x.some)
	}
}

// TestP515Lives: lives of a store one behind the other, each ended by a crash, some openings broken off.
func TestP515Lives(t *testing.T) {
	r := rand.New(rand.NewPCG(5, 15))
	for range 60 {
		x := begun(t, r, 8+r.IntN(20), small)
		for range 8 {
			x.d.Cut(r.IntN(50))
			for range 12 {
				if !x.d.Stat().Down {
					x.act()
				}
			}
			x.crash()
			for range r.IntN(3) {
				x.d.Cut(r.IntN(3))
				slots.Open(x.d)
				x.crash()
			}
			x.revive()
		}
	}
}

// script: some calls, in each of which the power may go.
func script(x *world) {
	for _, call := range []func(){
		func() { x.commit(false, func(b *slots.Batch) { b.Alloc(1); b.Put(1, 1, all(1, 20)); b.Alloc(2) }) },
		func() { x.commit(false, func(b *slots.Batch) { b.SetRoot(3, 1) }) },
		func() { x.checkpoint(1) },
		func() { x.commit(true, func(b *slots.Batch) { b.Free(1, 1); b.Alloc(4); b.SetRoot(3, 2) }) },
		func() { x.commit(true, func(b *slots.Batch) { b.Alloc(1); b.Free(1, 1) }) },
		func() { x.checkpoint(9) },
		func() { x.commit(false, func(b *slots.Batch) { b.Put(4, 1, all(9, 118)); b.Alloc(3) }) },
		func() { x.sync() },
		func() { x.commit(false, func(b *slots.Batch) { b.Free(4, 1); b.Alloc(1) }) },
	} {
		if !x.d.Stat().Down {
			call()
		}
	}
}

func scripted(t *testing.T, power int) *world {
	t.Helper()
	x := begun(t, rand.New(rand.NewPCG(1, 1)), 16, small)
	x.d.Cut(power)
	script(x)
	return x
}

// TestP515EveryLoss: the power goes at each act of the script, and each choice of the unflushed writes is kept.
func TestP515EveryLoss(t *testing.T) {
	for power := 0; ; power++ {
		for _, keep := range keeps(scripted(t, power).d) {
			x := scripted(t, power)
			x.d.Crash(keep)
			x.revive()
		}
		if x := scripted(t, power); !x.d.Stat().Down {
			if power < 20 {
				t.Fatalf("the script does %d acts alone", power)
			}
			return
		}
	}
}

// TestP515Sure: what was told to last is found by a crash that keeps nothing; what was not, isn't.
func TestP515Sure(t *testing.T) {
	for how := range 5 {
		d, s := made(t, 16, small)
		b := begins(t, s)
		gives(t, b, 1, 1)
		commits(t, b, false, how == 0, 3)
		switch how {
		case 1:
			wants(t, "Sync", s.Sync(), api.OK)
		case 2:
			settles(t, s, 1, 1)
		case 3:
			settles(t, s, 0, 0)
		}
		d.Crash(nil)
		if how < 3 {
			lists(t, opens(t, d), 1, 1)
		} else {
			lists(t, opens(t, d), 1)
		}
	}
}
