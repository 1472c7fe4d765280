package gate

import (
	"math/rand"
	"testing"
	"time"

	"trellis/api"
)

// theCalls: one call of each kind, and those that answer errors.
var theCalls = map[string]func(g *Gate){
	"Submit":          func(g *Gate) { g.Submit(9) },
	"Submit, known":   func(g *Gate) { g.Submit(1) },
	"Admit":           func(g *Gate) { g.Admit() },
	"End":             func(g *Gate) { g.End(1, true) },
	"End, away":       func(g *Gate) { g.End(8, true) },
	"Swept":           func(g *Gate) { g.Swept() },
	"Next":            func(g *Gate) { g.Next() },
	"Picked":          func(g *Gate) { g.Picked(1) },
	"Picked, sweeper": func(g *Gate) { g.Picked(0) },
	"Picked, away":    func(g *Gate) { g.Picked(8) },
	"Stat":            func(g *Gate) { g.Stat() },
}

// TestP1510TheMutexGuardsEachCall: none goes on while another is on the way, and none keeps the gate shut behind it.
func TestP1510TheMutexGuardsEachCall(t *testing.T) {
	for name, call := range theCalls {
		g, _ := New(2, 3)
		g.Submit(1)
		g.Admit()
		g.mutex.Lock()
		done := make(chan struct{})
		go func() {
			call(g)
			close(done)
		}()
		select {
		case <-done:
			t.Errorf("%s does not wait for the mutex", name)
			continue
		case <-time.After(20 * time.Millisecond):
		}
		g.mutex.Unlock()
		<-done
		if !g.mutex.TryLock() {
			t.Errorf("%s leaves the mutex locked", name)
		}
	}
}

func TestP1506TheHeapIsAHeap(t *testing.T) {
	for seed := range int64(50) {
		r := rand.New(rand.NewSource(seed))
		g, _ := New(api.MaxMost, api.MaxUnits)
		for range 400 {
			g.Submit(1 + r.Intn(30))
			if r.Intn(3) == 0 {
				g.Admit()
			}
			if n := len(g.inside); n > 0 && r.Intn(6) == 0 {
				g.End(g.inside[r.Intn(n)], false)
			}
			g.Picked(g.turns.heap[r.Intn(len(g.turns.heap))].id)
			for i := 1; i < len(g.turns.heap); i++ {
				if g.turns.isAhead(i, (i-1)/2) {
					t.Fatalf("the one at %d is ahead of the one at %d: %+v", i, (i-1)/2, g.turns.heap)
				}
			}
			if len(g.turns.heap) != len(g.inside)+1 {
				t.Fatalf("%d have turns, %d are inside", len(g.turns.heap), len(g.inside))
			}
		}
	}
}
