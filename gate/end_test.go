package gate_test

import (
	"fmt"
	"math"
	"testing"

	"trellis/api"
)

func TestP1504NotInside(t *testing.T) {
	g := made(t, 2, 64)
	submitted(t, g, 3, 4, 5)
	admits(t, g, 3, 4)
	for _, id := range []int{0, 5, 6, -3, 1 << 30, 1<<30 + 1, math.MinInt, math.MaxInt} {
		for _, logged := range []bool{false, true} {
			same(t, fmt.Sprintf("End(%d, %v)", id, logged), g.End(id, logged), api.ErrAway)
			stands(t, g, list(3, 4), list(5), 0)
		}
	}
	same(t, "the turns", order(g), list(3, 4, 0))
}

func TestP1504TheSweeperStays(t *testing.T) {
	g := made(t, 2, 64)
	same(t, "End(0, true)", g.End(0, true), api.ErrAway)
	same(t, "Next()", g.Next(), 0)
	picks(t, g, 0)
}

func TestP1504InsideNoLonger(t *testing.T) {
	g := made(t, 3, 64)
	submitted(t, g, 3, 4, 5)
	admits(t, g, 3, 4, 5)
	ends(t, g, 4, false)
	stands(t, g, list(3, 5), nil, 0)
	same(t, "End(4, true)", g.End(4, true), api.ErrAway)
	same(t, "Picked(4)", g.Picked(4), api.ErrAway)
	same(t, "the turns", order(g), list(3, 5, 0))
}

func TestP1504Logged(t *testing.T) {
	g := made(t, 3, 64)
	submitted(t, g, 3, 4, 5)
	admits(t, g, 3, 4, 5)
	ends(t, g, 4, true)
	stands(t, g, list(3, 5), nil, 1)
	ends(t, g, 5, false)
	stands(t, g, list(3), nil, 1)
	ends(t, g, 3, true)
	stands(t, g, nil, nil, 2)
}

func TestP1504EndLetsNobodyIn(t *testing.T) {
	for _, logged := range []bool{false, true} {
		g := made(t, 1, 64)
		submitted(t, g, 3, 4)
		admits(t, g, 3)
		ends(t, g, 3, logged)
		stands(t, g, nil, list(4), g.Stat().Logged)
		same(t, "Next()", g.Next(), 0)
	}
}

func TestP1504ANumberThatComesAgain(t *testing.T) {
	g := made(t, 3, 64)
	submitted(t, g, 3, 4)
	admits(t, g, 3, 4)
	picks(t, g, 3, 3, 4, 0)
	ends(t, g, 3, false)
	submits(t, g, 3, 3)
	admits(t, g, 3)
	stands(t, g, list(4, 3), nil, 0)
	turns(t, g, 4, 3, 0) // its last turn is that of its entering now, and so is its stamp
}

func TestP1504EachOfManyEnds(t *testing.T) {
	for out := 1; out <= api.MaxMost; out++ {
		g := made(t, 16, 64)
		var want []int
		for id := 1; id <= api.MaxMost; id++ {
			submitted(t, g, id)
			if id != out {
				want = append(want, id)
			}
		}
		g.Admit()
		ends(t, g, out, false)
		same(t, "the turns", order(g), append(want, 0))
	}
}

func TestP1505NothingIsLogged(t *testing.T) {
	g := made(t, 2, 3)
	submitted(t, g, 1, 2, 3, 4, 5)
	admits(t, g, 1, 2)
	ends(t, g, 1, true)
	ends(t, g, 2, true)
	admits(t, g, 3)
	stands(t, g, list(3), list(4, 5), 2)
	g.Swept()
	stands(t, g, list(3), list(4, 5), 0) // it lets nobody in
	admits(t, g, 4)
	ends(t, g, 3, true)
	stands(t, g, list(4), list(5), 1)
}

func TestP1505IsNoTurn(t *testing.T) {
	g := made(t, 2, 3)
	submitted(t, g, 1)
	admits(t, g, 1)
	g.Swept()
	submitted(t, g, 2)
	admits(t, g, 2) // its last turn is 0 as that of 1 is: the clock stands still
	turns(t, g, 1, 2)
	g.Swept()
	turns(t, g, 0, 1, 2, 0) // the sweeper's turn is still to come
}

func TestP1505AnEmptyGate(t *testing.T) {
	g := made(t, 2, 3)
	g.Swept()
	g.Swept()
	stands(t, g, nil, nil, 0)
}
