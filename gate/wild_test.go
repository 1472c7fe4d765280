package gate_test

import (
	"math"
	"math/rand"
	"testing"
)

// wildNumber: any number, near the edges now and then.
func wildNumber(r *rand.Rand) int {
	switch r.Intn(6) {
	case 0:
		return r.Intn(70) - 2
	case 1:
		return 1<<30 + r.Intn(3) - 1
	case 2:
		return math.MaxInt - r.Intn(2)
	case 3:
		return math.MinInt + r.Intn(2)
	case 4:
		return 1<<32 + r.Intn(64) // the low half of it is a number that may be known
	}
	return 1 + r.Intn(64)
}

func TestP1502ToP1508WildNumbers(t *testing.T) {
	for seed := range int64(100) {
		r := rand.New(rand.NewSource(seed))
		most, units := 1+r.Intn(16), 1+r.Intn(64)
		g, b := door{made(t, most, units)}, &book{most: most, units: units}
		for range 400 {
			agree(t, g, b, call{r.Intn(calls), wildNumber(r)})
		}
	}
}

func TestP1501WildLimits(t *testing.T) {
	r := rand.New(rand.NewSource(1))
	for range 2000 {
		most, units := wildNumber(r), wildNumber(r)
		if most < 1 || most > 16 || units < 1 || units > 64 {
			makesNone(t, most, units)
		} else {
			made(t, most, units)
		}
	}
}
