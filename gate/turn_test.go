package gate_test

import (
	"fmt"
	"math"
	"testing"

	"trellis/api"
)

func TestP1506OfOneLastTurnTheLeastStamp(t *testing.T) {
	g := made(t, 4, 64)
	submitted(t, g, 9, 2, 7, 1) // the stamp counts, not the number
	admits(t, g, 9, 2, 7, 1)
	turns(t, g, 9, 2, 7, 1, 0, 9, 2, 7, 1, 0)
}

func TestP1506TheLeastLastTurn(t *testing.T) {
	g := made(t, 4, 64)
	submitted(t, g, 1, 2, 3, 4)
	admits(t, g, 1, 2, 3, 4)
	picks(t, g, 4, 0, 2, 1, 3)
	turns(t, g, 4, 0, 2, 1, 3, 4)
}

func TestP1506TheSweeperComesBehindOthersOfItsLastTurn(t *testing.T) {
	g := made(t, 2, 64)
	picks(t, g, 0, 0, 0)
	submitted(t, g, 1, 2)
	admits(t, g, 1, 2) // the last turn of all three is 3
	turns(t, g, 1, 2, 0)
}

func TestP1506TheSweeperComesAheadOfLaterOnes(t *testing.T) {
	g := made(t, 2, 64)
	submitted(t, g, 1)
	admits(t, g, 1)
	picks(t, g, 1)
	submitted(t, g, 2)
	admits(t, g, 2) // the last turns of 1 and 2 are 1, the sweeper's is 0
	turns(t, g, 0, 1, 2, 0)
}

func TestP1506ChangesNothing(t *testing.T) {
	g := made(t, 3, 64)
	submitted(t, g, 5, 6, 7, 8)
	admits(t, g, 5, 6, 7)
	for _, id := range []int{5, 6, 7, 0, 5} {
		for range 50 {
			same(t, "Next()", g.Next(), id)
			stands(t, g, list(5, 6, 7), list(8), 0)
		}
		picks(t, g, id)
	}
}

func TestP1506NobodyInside(t *testing.T) {
	g := made(t, 3, 64)
	submitted(t, g, 5, 6) // those who queue have no turn
	for range 4 {
		turns(t, g, 0)
	}
	admits(t, g, 5, 6)
	ends(t, g, 5, true)
	ends(t, g, 6, true)
	turns(t, g, 0, 0)
}

func TestP1507Away(t *testing.T) {
	g := made(t, 2, 64)
	submitted(t, g, 1, 2, 3)
	admits(t, g, 1, 2)
	for _, id := range []int{3, 4, -1, 1 << 30, 1<<30 + 1, math.MinInt, math.MaxInt} {
		same(t, fmt.Sprintf("Picked(%d)", id), g.Picked(id), api.ErrAway)
	}
	picks(t, g, 1)
	same(t, "Picked(3)", g.Picked(3), api.ErrAway) // it is no turn: the clock stays
	ends(t, g, 2, false)
	admits(t, g, 3) // its last turn is 1, as that of 1 is
	turns(t, g, 0, 1, 3, 0)
}

func TestP1507NotWhomNextNames(t *testing.T) {
	g := made(t, 3, 64)
	submitted(t, g, 1, 2, 3)
	admits(t, g, 1, 2, 3)
	picks(t, g, 3, 3, 3, 2)
	turns(t, g, 1, 0, 3, 2, 1)
}

func TestP1507TheClockCountsEachTurn(t *testing.T) {
	g := made(t, 3, 64)
	submitted(t, g, 1)
	admits(t, g, 1)
	picks(t, g, 1, 0) // last turns: 1, and 2 of the sweeper
	submitted(t, g, 2)
	admits(t, g, 2) // 2
	picks(t, g, 1)  // 3
	submitted(t, g, 3)
	admits(t, g, 3) // 3
	turns(t, g, 2, 0, 1, 3)
}

func TestP1507EveryOneOfMany(t *testing.T) {
	for picked := 0; picked <= api.MaxMost; picked++ {
		g := made(t, 16, 64)
		var want []int
		for id := 1; id <= api.MaxMost; id++ {
			submitted(t, g, id)
			if id != picked {
				want = append(want, id)
			}
		}
		if picked != 0 {
			want = append(want, 0)
		}
		g.Admit()
		picks(t, g, picked)
		same(t, "the turns", order(g), append(want, picked))
	}
}
