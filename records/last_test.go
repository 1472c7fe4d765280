package records_test

import (
	"fmt"
	"math/rand/v2"
	"slices"
	"testing"

	"trellis/api"
	"trellis/disk"
	"trellis/records"
)

// world: a disk with a store, and a witness: the graphs that the write sets since the opening left (the one that was found first), and how many of these must be found.
type world struct {
	t      *testing.T
	r      *rand.Rand
	d      *disk.Disk
	s      *records.Store
	b      *book   // what the store has
	states []*book // behind each write set
	sure   int
}

func begun(t *testing.T, r *rand.Rand, log int, z api.Sizes) *world {
	t.Helper()
	w := &world{t: t, r: r, d: formatted(t, log, z), b: newBook(t, z)}
	w.states = []*book{w.b}
	w.revive()
	return w
}

// told: of a store: its graph and its count.
func told(s *records.Store) string {
	return fmt.Sprintf("%+v %d", must(s.Graph()), must(s.Commits()))
}

func (b *book) told() string { return fmt.Sprintf("%+v %d", b.graph(), b.commits) }

// revive: opens the store; it must have what some of the write sets left.
func (w *world) revive() {
	w.t.Helper()
	w.s = opens(w.t, w.d)
	found := told(w.s)
	i := slices.IndexFunc(w.states[w.sure:], func(b *book) bool { return b.told() == found })
	if i < 0 {
		w.t.Fatalf("what is found was left by none of the write sets from %d to %d: %s", w.sure, len(w.states)-1, found)
	}
	w.b = w.states[w.sure:][i]
	w.states, w.sure = []*book{w.b}, 0
	sound(w.t, below(w.t, w.d))
}

// sured: an answer that says that all write sets so far last.
func (w *world) sured() { w.sure = len(w.states) - 1 }

// apply: told to the witness.
func (w *world) apply(x api.Delta, sync bool) {
	w.t.Helper()
	will := w.b
	code := formFault(x)
	if code == api.OK {
		code = w.b.fault(x)
	}
	if code == api.OK && !isEmpty(x) {
		will = w.b.behind(x)
	}
	_, got := w.s.Apply(x, false, sync)
	switch {
	case got == api.ErrPower:
		w.states = append(w.states, will)
		return
	case got == api.ErrLogFull && code == api.OK:
		return
	case got != code:
		w.t.Fatalf("Apply(%+v) = %d, want %d", x, got, code)
	case code == api.OK && !isEmpty(x):
		w.states, w.b = append(w.states, will), will
		if sync {
			w.sured()
		}
	}
	if now := told(w.s); now != w.b.told() {
		w.t.Fatalf("the store has %s, want %s", now, w.b.told())
	}
}

func (w *world) sync() {
	if w.s.Sync() == api.OK {
		w.sured()
	}
}

func (w *world) checkpoint(most int) {
	if n, code := w.s.Checkpoint(most); code == api.OK && n > 0 {
		w.sured()
	}
}

// crash: keeps some of the unflushed writes.
func (w *world) crash() {
	keep := make([]bool, w.d.Stat().Pending)
	for i := range keep {
		keep[i] = w.r.IntN(2) == 0
	}
	w.d.Crash(keep)
}

func (w *world) act() {
	switch w.r.IntN(8) {
	case 0:
		w.sync()
	case 1, 2:
		w.checkpoint(w.r.IntN(30))
	default:
		w.apply(maker{w.r, w.b}.delta(), w.r.IntN(3) == 0)
	}
}

// TestP715Lives: lives of a store one behind the other, each ended by a crash, some openings broken off.
func TestP715Lives(t *testing.T) {
	r := rand.New(rand.NewPCG(7, 15))
	for range 40 {
		w := begun(t, r, 30+r.IntN(60), api.Sizes{Node: 2, Edge: 3, Prop: 12, Tree: 16})
		for range 8 {
			w.d.Cut(r.IntN(120))
			for range 12 {
				if !w.d.Stat().Down {
					w.act()
				}
			}
			w.crash()
			for range r.IntN(3) {
				w.d.Cut(r.IntN(3))
				records.Open(w.d)
				w.crash()
			}
			w.revive()
		}
	}
}

// script: some calls, in each of which the power may go.
func script(w *world) {
	for _, call := range []func(){
		func() { w.apply(first, false) },
		func() { w.apply(api.Delta{SetNodes: list(to(1, "a", yes), to(2, "b", no))}, true) },
		func() { w.checkpoint(2) },
		func() { w.apply(api.Delta{DelEdges: list[int64](1), DelNodes: list[int64](2)}, false) },
		func() { w.sync() },
		func() { w.apply(api.Delta{NewEdges: list(ed(-1, "t", 1, 1, pr("k", str("x"))))}, false) },
		func() { w.checkpoint(99) },
		func() {
			w.apply(api.Delta{SetNodes: list(to(1, "pop", null)), SetEdges: list(to(1, "k", null))}, false)
		},
	} {
		if !w.d.Stat().Down {
			call()
		}
	}
}

func scripted(t *testing.T, power int) *world {
	t.Helper()
	w := begun(t, rand.New(rand.NewPCG(1, 1)), 40, small)
	w.d.Cut(power)
	script(w)
	return w
}

// keeps: all choices of the pending writes, or, where these are too many: none, all, each alone, all but each, and the beginnings.
func keeps(d *disk.Disk) (out [][]bool) {
	n := d.Stat().Pending
	if n <= 4 {
		for mask := range 1 << n {
			keep := make([]bool, n)
			for i := range keep {
				keep[i] = mask>>i&1 == 1
			}
			out = append(out, keep)
		}
		return out
	}
	for at := range n + 1 {
		alone, allBut, head := make([]bool, n), make([]bool, n), make([]bool, n)
		for i := range n {
			alone[i], allBut[i], head[i] = i == at, i != at, i < at
		}
		out = append(out, alone, allBut, head)
	}
	return out
}

// TestP715EveryLoss: the power goes at each act of the script, and the unflushed writes are kept or not.
func TestP715EveryLoss(t *testing.T) {
	for power := 0; ; power++ {
		w := scripted(t, power)
		for _, keep := range keeps(w.d) {
			w = scripted(t, power)
			w.d.Crash(keep)
			w.revive()
		}
		if w = scripted(t, power); !w.d.Stat().Down {
			if power < 40 {
				t.Fatalf("the script does %d acts alone", power)
			}
			return
		}
	}
}

// TestP715Sure: what was told to last is found by a crash that keeps nothing; what was not, isn't.
func TestP715Sure(t *testing.T) {
	for how := range 5 {
		d, s := made(t, 60, small)
		_, code := s.Apply(first, false, how == 0)
		wants(t, "Apply", code, api.OK)
		switch how {
		case 1:
			wants(t, "Sync", s.Sync(), api.OK)
		case 2:
			must(s.Checkpoint(1))
		case 3:
			must(s.Checkpoint(0))
		}
		d.Crash(nil)
		if s = opens(t, d); how < 3 {
			counts(t, s, 1)
			outed(t, s, 1, 1)
		} else {
			counts(t, s, 0)
			tells(t, s, api.Graph{})
		}
	}
}
