package gate_test

import (
	"fmt"
	"math/rand"
	"slices"
	"sync"
	"sync/atomic"
	"testing"

	"trellis/api"
)

// seen: a call that was made, what it answered, and when it was made and answered, by a clock that all share.
type seen struct {
	call
	answer     string
	from, till int64
}

// together: makes the calls of each list in a goroutine of its own, all at one time.
func together(g house, scripts [][]call) [][]seen {
	var clock atomic.Int64
	out := make([][]seen, len(scripts))
	var all sync.WaitGroup
	start := make(chan struct{})
	for i, script := range scripts {
		all.Go(func() {
			<-start
			for _, c := range script {
				from := clock.Add(1)
				answer := g.do(c)
				out[i] = append(out[i], seen{c, answer, from, clock.Add(1)})
			}
		})
	}
	close(start)
	all.Wait()
	return out
}

// explained: is there an order of the calls, one behind the other, none ahead of one that had been answered when it was made, by which the book answers the same?
func explained(b book, left [][]seen) bool {
	until, some := int64(0), false // the first answer that is still to come
	for _, script := range left {
		if len(script) > 0 && (!some || script[0].till < until) {
			until, some = script[0].till, true
		}
	}
	for i, script := range left {
		if len(script) == 0 || script[0].from > until {
			continue
		}
		twin := b.twin()
		if twin.do(script[0].call) != script[0].answer {
			continue
		}
		rest := slices.Clone(left)
		rest[i] = script[1:]
		if explained(twin, rest) {
			return true
		}
	}
	return !some
}

func TestP1510AsIfOneBehindTheOther(t *testing.T) {
	for seed := range int64(800) {
		r := rand.New(rand.NewSource(seed))
		most, units := 1+r.Intn(3), 1+r.Intn(4)
		g, b := door{made(t, most, units)}, book{most: most, units: units}
		for id := range r.Intn(4) {
			agree(t, g, &b, call{submit, 1 + id})
			agree(t, g, &b, call{what: admit})
		}
		scripts := make([][]call, 4)
		for i := range scripts {
			for range 4 {
				scripts[i] = append(scripts[i], call{r.Intn(calls), 1 + r.Intn(5)})
			}
		}
		if told := together(g, scripts); !explained(b, told) {
			t.Fatalf("no order explains %+v", told)
		}
	}
}

func TestP1510NoStampTwice(t *testing.T) {
	const workers, rounds = 8, 3000
	g := made(t, 16, 64)
	stamps := make([][]int64, workers)
	var turns, logged atomic.Int64
	var all sync.WaitGroup
	for w := range workers {
		all.Go(func() {
			for i := range rounds { // each has numbers of its own
				stamp, code := g.Submit(1 + w + i*workers)
				if code == api.OK {
					stamps[w] = append(stamps[w], stamp)
				}
				for _, id := range g.Admit() {
					if g.Picked(id) == api.OK {
						turns.Add(1)
					}
					if g.End(id, i%2 == 0) == api.OK && i%2 == 0 {
						logged.Add(1)
					}
				}
				if s := g.Stat(); s.Logged > 40 {
					g.Swept()
				}
			}
		})
	}
	all.Wait()
	g.Swept()
	for len(g.Stat().Queue) > 0 {
		for _, id := range g.Admit() {
			ends(t, g, id, false)
		}
	}
	given := slices.Sorted(slices.Values(slices.Concat(stamps...)))
	for i, stamp := range given {
		if stamp != int64(i+1) {
			t.Fatalf("the stamp number %d is %d", i+1, stamp)
		}
	}
	if turns.Load() == 0 || logged.Load() == 0 || len(given) < rounds {
		t.Errorf("%d submitted, %d turns, %d logged", len(given), turns.Load(), logged.Load())
	}
	stands(t, g, nil, nil, 0)
}

func TestP1510EachEntersOnce(t *testing.T) {
	const workers = 8
	for round := range 200 {
		g := made(t, 16, 64)
		for id := 1; id <= api.MaxLive; id++ {
			submitted(t, g, id)
		}
		entered := make([][]int, workers)
		var all sync.WaitGroup
		for w := range workers {
			all.Go(func() {
				for range 16 {
					in := g.Admit()
					entered[w] = append(entered[w], in...)
					for _, id := range in {
						g.End(id, true)
					}
				}
			})
		}
		all.Wait()
		got := slices.Sorted(slices.Values(slices.Concat(entered...)))
		if len(got) != api.MaxLive || len(slices.Compact(got)) != api.MaxLive {
			t.Fatalf("round %d: %s entered", round, fmt.Sprint(got))
		}
		stands(t, g, nil, nil, api.MaxUnits)
	}
}
