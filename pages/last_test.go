package pages_test

import (
	"bytes"
	"math/rand/v2"
	"slices"
	"testing"

	"trellis/api"
	"trellis/disk"
	"trellis/pages"
)

// world: a disk with a store, and a witness: what all pages held behind each commit since the store was opened (behind none first), and how many of these must be found.
type world struct {
	t      *testing.T
	r      *rand.Rand
	d      *disk.Disk
	log    int
	count  int
	s      *pages.Store
	states [][]byte
	sure   int
}

// begun: a world with a store that was just opened.
func begun(t *testing.T, r *rand.Rand, log, count int) *world {
	t.Helper()
	x := &world{t: t, r: r, d: formatted(t, 1+log+count+2, log, count), log: log, count: count}
	x.revive()
	return x
}

// revive: opens the store; its contents must be those behind some of the commits.
func (x *world) revive() {
	x.t.Helper()
	x.s = opens(x.t, x.d)
	found := contents(x.t, x.s)
	if x.states != nil && !x.allows(found) {
		x.t.Fatalf("what is found was left by none of the commits from %d to %d", x.sure, len(x.states)-1)
	}
	x.states, x.sure = [][]byte{found}, 0
}

func (x *world) allows(found []byte) bool {
	return slices.ContainsFunc(x.states[x.sure:], func(state []byte) bool { return bytes.Equal(state, found) })
}

// commit: told to the witness.
func (x *world) commit(batch []api.PageImage, held int, sync bool) {
	state := slices.Clone(x.states[len(x.states)-1])
	for _, p := range batch {
		copy(state[p.Page*whole:], p.Data)
	}
	_, code := x.s.Commit(batch, held, sync)
	if code == api.OK || code == api.ErrPower {
		x.states = append(x.states, state)
	}
	if code == api.OK && sync {
		x.sure = len(x.states) - 1
	}
}

func (x *world) sync() {
	if x.s.Sync() == api.OK {
		x.sure = len(x.states) - 1
	}
}

func (x *world) checkpoint(most int) {
	if n, code := x.s.Checkpoint(most); code == api.OK && n > 0 {
		x.sure = len(x.states) - 1
	}
}

// batch: some pages, none twice; their bytes are the world's own count.
func (x *world) batch() []api.PageImage {
	var out []api.PageImage
	for _, page := range x.r.Perm(x.count)[:1+x.r.IntN(min(4, x.count))] {
		out = append(out, api.PageImage{Page: page, Data: filled(x.r.IntN(1<<20), whole)})
	}
	return out
}

// act: a call of the store. A dead one is left alone: its commits are none.
func (x *world) act() {
	if x.d.Stat().Down {
		return
	}
	switch x.r.IntN(7) {
	case 0:
		x.sync()
	case 1:
		x.checkpoint(1 + x.r.IntN(3))
	case 2:
		x.checkpoint(x.count)
	default:
		x.commit(x.batch(), 0, x.r.IntN(3) == 0)
	}
}

func (x *world) crash() {
	keep := make([]bool, x.d.Stat().Pending)
	for i := range keep {
		keep[i] = x.r.IntN(3) > 0
	}
	x.d.Crash(keep)
}

// found: what an Open of the disk's lasting bytes tells, but for the log's own place.
type found struct {
	contents []byte
	stat     api.PageStat
	firsts   []first
}

func find(t *testing.T, d *disk.Disk) found {
	t.Helper()
	s := opens(t, loaded(t, d.Image()))
	return found{contents: contents(t, s), stat: s.Stat(), firsts: firsts(t, d)}
}

func (f found) same(g found) bool {
	return bytes.Equal(f.contents, g.contents) && f.stat == g.stat && slices.Equal(f.firsts, g.firsts)
}

// TestP410And412Lives: crashes without end, each at any act of the disk, keeping any of the unflushed writes; openings that break off among them.
func TestP410And412Lives(t *testing.T) {
	r := rand.New(rand.NewPCG(4, 10))
	for range 150 {
		x := begun(t, r, 4+r.IntN(12), 1+r.IntN(7))
		for range 20 {
			if r.IntN(4) > 0 {
				x.d.Cut(r.IntN(24))
			}
			for range 1 + r.IntN(10) {
				x.act()
			}
			x.crash()
			for range r.IntN(3) {
				before := find(t, x.d)
				x.d.Cut(r.IntN(3))
				pages.Open(x.d)
				x.crash()
				if !before.same(find(t, x.d)) {
					t.Fatalf("an opening that broke off changes what is found")
				}
			}
			x.revive()
		}
	}
}

// script: some calls of a store with a log of 14 sectors and 6 pages.
func script(x *world) {
	for _, call := range []func(){
		func() { x.commit(batch(image(3, 1), image(1, 2)), 0, false) },
		func() { x.commit(batch(image(1, 3)), 0, false) },
		func() { x.checkpoint(1) },
		func() { x.commit(batch(image(1, 4), image(5, 5)), 0, true) },
		func() { x.checkpoint(2) },
		func() { x.commit(batch(image(0, 6)), 0, false) },
		func() { x.sync() },
		func() { x.s.Reserve(3) },
		func() { x.commit(batch(image(0, 7), image(3, 8)), 3, false) },
		func() { x.checkpoint(9) },
		func() { x.commit(batch(image(1, 9), image(3, 10)), 0, false) },
		func() { x.commit(batch(image(3, 11)), 0, false) },
	} {
		if !x.d.Stat().Down {
			call()
		}
	}
}

// scripted: a world in which the script ran up to the loss of power.
func scripted(t *testing.T, power int) *world {
	t.Helper()
	x := begun(t, rand.New(rand.NewPCG(1, 1)), 14, 6)
	x.d.Cut(power)
	script(x)
	return x
}

// TestP410EveryLoss: the power goes at each act of the script, and each choice of the unflushed writes is kept.
func TestP410EveryLoss(t *testing.T) {
	for power := 0; ; power++ {
		for mask := 0; ; mask++ {
			x := scripted(t, power)
			pending := x.d.Stat().Pending
			if mask>>pending > 0 {
				break
			}
			var keep []bool
			for i := range pending {
				keep = append(keep, mask>>i&1 == 1)
			}
			x.d.Crash(keep)
			x.revive()
		}
		if x := scripted(t, power); !x.d.Stat().Down {
			if power < 25 {
				t.Fatalf("the script does %d acts alone", power)
			}
			return
		}
	}
}

// TestP410LossInCheckpointAgain: behind a checkpoint that broke off, one more breaks off in the next life, and so on.
func TestP410LossInCheckpointAgain(t *testing.T) {
	r := rand.New(rand.NewPCG(4, 12))
	for range 40 {
		x := begun(t, r, 14, 6)
		for _, power := range r.Perm(16) {
			x.commit(x.batch(), 0, true)
			x.d.Cut(power)
			if !x.d.Stat().Down {
				x.checkpoint(1 + r.IntN(6))
			}
			x.crash()
			x.revive()
			if x.s.Stat().Log.Free < 6 {
				x.checkpoint(6)
			}
		}
	}
}

// homesOf: the newest bytes and the laid bytes of a store's homes. Reads need power, so the newest ones are put together from what is pending.
func homesOf(d *disk.Disk, log, count int) (newest, laid []byte) {
	from, to := (1+log)*size, (1+log+count)*size
	b := d.Image()
	laid = slices.Clone(b[from:to])
	for _, w := range d.Pending() {
		copy(b[w.At*size:], w.Data)
	}
	return b[from:to], laid
}

func emptyHomes(count int) []byte {
	var out []byte
	for page := range count {
		out = append(out, homeOf(page, full(0))...)
	}
	return out
}

// TestP411NoHomeAheadOfACheckpoint: whatever else is called, over openings and crashes too.
func TestP411NoHomeAheadOfACheckpoint(t *testing.T) {
	r := rand.New(rand.NewPCG(4, 11))
	for range 100 {
		x := begun(t, r, 40, 6)
		for range 6 {
			x.d.Cut(r.IntN(20))
			for range 5 {
				if x.d.Stat().Down {
					break
				}
				x.commit(x.batch(), 0, r.IntN(2) == 0)
				x.s.Checkpoint(0)
				x.s.Checkpoint(-1)
				x.s.Read(r.IntN(6))
				if r.IntN(3) == 0 {
					x.sync()
				}
				newest, laid := homesOf(x.d, 40, 6)
				if want := emptyHomes(6); !bytes.Equal(newest, want) || !bytes.Equal(laid, want) {
					t.Fatalf("a home was written ahead of a checkpoint")
				}
			}
			x.crash()
			x.revive()
		}
	}
}

// TestP411HomesLast: whenever a home was written, all commits up to then last, though the crash keeps nothing.
func TestP411HomesLast(t *testing.T) {
	var before []byte
	written := 0
	for power := range 60 {
		x := scripted(t, power)
		newest, _ := homesOf(x.d, 14, 6)
		if before != nil && !bytes.Equal(newest, before) {
			written++
			x.d.Crash(nil)
			if got := contents(t, opens(t, x.d)); !bytes.Equal(got, x.states[len(x.states)-1]) {
				t.Fatalf("power for %d acts: a home was written ahead of its commit", power)
			}
		}
		before = newest
	}
	if written != 6 {
		t.Errorf("the script writes %d homes", written)
	}
}

// TestP412: contents, dirty pages, their firsts and Redone, behind openings of which each broke off, or was followed by a crash.
func TestP412(t *testing.T) {
	for power := range 3 {
		for keep := range 2 {
			d, s := ready(t, true)
			settles(t, s, 1, 1)
			want := find(t, d)
			if w := []first{{4, 1}, {9, 1}, {2, 4}, {6, 4}, {0, 7}}; !slices.Equal(want.firsts, w) {
				t.Fatalf("the dirty pages are %v, want %v", want.firsts, w)
			}
			for range 5 {
				d.Cut(power)
				s, code := pages.Open(d)
				if code == api.OK {
					s.Read(3)
					s.Reserve(1)
					wants(t, "Sync", s.Sync(), api.OK)
				}
				d.Crash([]bool{keep == 1})
				if got := find(t, d); !got.same(want) {
					t.Fatalf("found %+v %v, want %+v %v", got.stat, got.firsts, want.stat, want.firsts)
				}
			}
		}
	}
}

// TestP413Held: whatever else fills the log, the room that is set aside is there.
func TestP413Held(t *testing.T) {
	r := rand.New(rand.NewPCG(4, 13))
	for range 300 {
		x := begun(t, r, 5+r.IntN(30), 12)
		var aside []int
		for range 30 {
			switch r.IntN(5) {
			case 0, 1:
				k := 1 + r.IntN(12)
				if x.s.Reserve(k) == api.OK {
					aside = append(aside, k)
				}
			case 2:
				x.commit(run(r.IntN(12), 1, byte(r.IntN(256))), 0, false)
			case 3:
				x.checkpoint(r.IntN(13))
			default:
				if len(aside) > 0 {
					k := aside[0]
					aside = aside[1:]
					if lsn, code := x.s.Commit(run(r.IntN(13-k), 1+r.IntN(k), byte(r.IntN(256))), k, false); code != api.OK || lsn == 0 {
						t.Fatalf("Commit with the room of %d pages = %d, %d", k, lsn, code)
					}
				}
			}
		}
		kept := 0
		for _, k := range aside {
			kept += roomOf(k)
		}
		if _, code := x.s.Checkpoint(12); code != api.OK {
			t.Fatalf("Checkpoint(12) = %d", code)
		}
		if l := x.s.Stat().Log; l.Reserved != kept || l.Live != 0 || l.Free != x.log-2-kept {
			t.Fatalf("behind a checkpoint of all pages the log is %+v; %d sectors were set aside", l, kept)
		}
	}
}
