package gate_test

import (
	"testing"

	"trellis/api"
	"trellis/gate"
)

func TestP1508AllThatIsTold(t *testing.T) {
	g := made(t, 2, 5)
	same(t, "Stat()", g.Stat(), api.GateStat{Units: 5, Most: 2})
	submitted(t, g, 9, 4, 6, 1)
	same(t, "Stat()", g.Stat(), api.GateStat{Queue: list(9, 4, 6, 1), Units: 5, Most: 2})
	admits(t, g, 9, 4)
	same(t, "Stat()", g.Stat(), api.GateStat{Inside: list(9, 4), Queue: list(6, 1), Units: 5, Most: 2})
	ends(t, g, 9, true)
	admits(t, g, 6)
	same(t, "Stat()", g.Stat(), api.GateStat{Inside: list(4, 6), Queue: list(1), Logged: 1, Units: 5, Most: 2})
}

func TestP1508TurnsDoNotShow(t *testing.T) {
	g := made(t, 3, 5)
	submitted(t, g, 9, 4, 6)
	admits(t, g, 9, 4, 6)
	picks(t, g, 9, 0, 6)
	stands(t, g, list(9, 4, 6), nil, 0)
}

// spoil: writes into a list, and into its spare room.
func spoil(of []int) {
	of = of[:cap(of)]
	for i := range of {
		of[i] = -7
	}
}

func TestP1508TheListsAreTheCallersOwn(t *testing.T) {
	g := made(t, 3, 64)
	submitted(t, g, 1, 2, 3, 4, 5, 6, 7)
	spoil(g.Admit())
	for range 3 {
		s := g.Stat()
		spoil(s.Inside)
		same(t, "Queue behind the writing into Inside", s.Queue, list(4, 5, 6, 7))
		spoil(s.Queue)
		other := g.Stat()
		_ = append(other.Inside, -8)
		_ = append(other.Queue, -9)
		stands(t, g, list(1, 2, 3), list(4, 5, 6, 7), 0)
	}
	kept := g.Stat()
	ends(t, g, 1, false)
	admits(t, g, 4)
	submitted(t, g, 8)
	same(t, "what was told before", kept, api.GateStat{Inside: list(1, 2, 3), Queue: list(4, 5, 6, 7), Units: 64, Most: 3})
	same(t, "the turns", order(g), list(2, 3, 4, 0))
}

func TestP1509ANilGate(t *testing.T) {
	var g *gate.Gate
	for _, id := range []int{1, 0, -1, 1 << 40} {
		stamp, code := g.Submit(id)
		same(t, "Submit", []any{stamp, code}, []any{0, api.ErrArg})
		same(t, "End", []any{g.End(id, true), g.End(id, false)}, []any{api.ErrArg, api.ErrArg})
		same(t, "Picked", g.Picked(id), api.ErrArg)
	}
	admits(t, g)
	same(t, "Next()", g.Next(), 0)
	g.Swept()
	same(t, "Stat()", g.Stat(), api.GateStat{})
}
