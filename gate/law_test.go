package gate_test

import (
	"fmt"
	"math/rand"
	"slices"
	"testing"

	"trellis/api"
	"trellis/gate"
)

// door: a gate, called as its book is.
type door struct{ *gate.Gate }

func (g door) do(c call) string {
	switch c.what {
	case submit:
		return fmt.Sprint(g.Submit(c.id))
	case admit:
		return fmt.Sprint(g.Admit())
	case end, endLogged:
		return fmt.Sprint(g.End(c.id, c.what == endLogged))
	case swept:
		g.Swept()
		return ""
	case next:
		return fmt.Sprint(g.Next())
	case picked:
		return fmt.Sprint(g.Picked(c.id))
	}
	return fmt.Sprint(g.Stat())
}

// agree: makes one call of both, and holds the answers, and what both stand at behind it, against each other.
func agree(t *testing.T, g, b house, c call) {
	t.Helper()
	for _, c := range []call{c, {what: next}, {what: stat}} {
		if got, want := g.do(c), b.do(c); got != want {
			t.Fatalf("%+v = %s, want %s", c, got, want)
		}
	}
}

// scripts: goes through all scripts of so many calls of a gate of these limits, over the numbers 0 to most + 1.
func scripts(t *testing.T, most, units, long int, so []call) {
	if len(so) == long {
		g, b := door{made(t, most, units)}, &book{most: most, units: units}
		for _, c := range so {
			agree(t, g, b, c)
		}
		return
	}
	for _, what := range []int{admit, swept} {
		scripts(t, most, units, long, append(so, call{what: what}))
	}
	for _, what := range []int{submit, end, endLogged, picked} {
		for id := range most + 2 {
			scripts(t, most, units, long, append(so, call{what, id}))
		}
	}
}

func TestP1502ToP1508AllShortScripts(t *testing.T) {
	scripts(t, 1, 1, 4, nil)
	scripts(t, 1, 2, 4, nil)
	scripts(t, 2, 1, 4, nil)
	scripts(t, 2, 2, 4, nil)
}

// drawer: draws calls, of numbers from 0 to top, so that a gate fills or empties as crowd says.
type drawer struct {
	*rand.Rand
	top, crowd int
}

func (d drawer) call(b *book) call {
	all := append(numbers(b.inside), 0)
	some := all[d.Intn(len(all))]
	if d.Intn(8) == 0 {
		some = d.Intn(d.top+3) - 1
	}
	switch n := d.Intn(20); {
	case n < d.crowd:
		return call{submit, 1 + d.Intn(d.top)}
	case n < 12:
		return call{picked, some}
	case n < 14:
		return call{end + d.Intn(2), some}
	case n < 16:
		return call{what: swept}
	}
	return call{what: admit}
}

// drawn: goes through drawn scripts, of gates of all limits; look is called with each call, ahead of it.
func drawn(t *testing.T, look func(b *book, c call)) {
	for seed := range int64(300) {
		d := drawer{Rand: rand.New(rand.NewSource(1500 + seed))}
		d.top, d.crowd = 1+d.Intn(90), 2+d.Intn(9)
		most, units := 1+d.Intn(api.MaxMost), 1+d.Intn(api.MaxUnits)
		g, b := door{made(t, most, units)}, &book{most: most, units: units}
		for range 400 {
			c := d.call(b)
			look(b, c)
			agree(t, g, b, c)
		}
	}
}

func TestP1502ToP1508DrawnScripts(t *testing.T) {
	var most, crowd, full int
	drawn(t, func(b *book, c call) {
		most = max(most, len(b.inside))
		if c.what == submit && len(b.queue)+len(b.inside) == api.MaxLive {
			crowd++
		}
		if c.what == admit && len(b.queue) > 0 && b.logged+len(b.inside) == b.units {
			full++
		}
	})
	if most != api.MaxMost || crowd == 0 || full == 0 {
		t.Errorf("the scripts do not reach far: %d inside, %d times crowded, %d times full", most, crowd, full)
	}
}

// fair: a gate whose turns go to whom Next names, all but some, and for how many turns each has waited since it could.
type fair struct {
	*gate.Gate
	waited map[int]int
	worst  map[bool]int // the longest that was seen: of the sweeper (true) and of all others
}

// turn: one turn, of the one whom Next names.
func (f *fair) turn(t *testing.T) {
	t.Helper()
	id, s := f.Next(), f.Stat()
	picks(t, f.Gate, id)
	for _, x := range append(s.Inside, 0) {
		f.waited[x]++
		if f.waited[x] > s.Most+1 {
			t.Fatalf("%d waits for its turn number %d, with %d at most", x, f.waited[x], s.Most)
		}
	}
	f.worst[id == 0] = max(f.worst[id == 0], f.waited[id]-s.Most)
	f.waited[id] = 0
}

// foul: a turn of anyone: all begin to wait anew.
func (f *fair) foul(t *testing.T, r *rand.Rand) {
	t.Helper()
	all := append(f.Stat().Inside, 0)
	picks(t, f.Gate, all[r.Intn(len(all))])
	f.waited = map[int]int{}
}

func TestP1511AFairTurn(t *testing.T) {
	worst := map[bool]int{}
	for seed := range int64(200) {
		r := rand.New(rand.NewSource(seed))
		f := &fair{Gate: made(t, 1+r.Intn(api.MaxMost), 1+r.Intn(api.MaxUnits)), waited: map[int]int{}, worst: worst}
		haste := 3 + r.Intn(60)
		for range 600 {
			switch n := r.Intn(haste); {
			case n == 0:
				s := f.Stat()
				if len(s.Inside) > 0 {
					ends(t, f.Gate, s.Inside[r.Intn(len(s.Inside))], r.Intn(2) == 0)
				}
				f.Swept()
			case n == 1:
				f.Submit(1 + r.Intn(40))
				for _, id := range f.Admit() {
					f.waited[id] = 0
				}
			case n == 2 && r.Intn(10) == 0:
				f.foul(t, r)
			default:
				f.turn(t)
			}
		}
	}
	same(t, "the longest waits, beyond most", []int{worst[true], worst[false]}, list(1, 1))
}

func TestP1511TheSweeperAmongThoseWhoComeAndGo(t *testing.T) {
	const most = 4
	g := made(t, most, 64)
	picks(t, g, 0)
	for round := range 50 { // each one has one turn, ends, and comes again: none keeps the sweeper away
		var turn int
		for turn = 1; ; turn++ {
			submitted(t, g, round*100+turn)
			g.Admit()
			id := g.Next()
			picks(t, g, id)
			if id == 0 {
				break
			}
			ends(t, g, id, false)
		}
		if turn > most+1 {
			t.Fatalf("the sweeper has its turn behind %d turns", turn)
		}
	}
}

func TestP1512InOrder(t *testing.T) {
	for seed := range int64(100) {
		d := drawer{Rand: rand.New(rand.NewSource(7000 + seed)), top: 80, crowd: 8}
		g := made(t, 1+d.Intn(api.MaxMost), 1+d.Intn(api.MaxUnits))
		stamps, last := map[int]int64{}, int64(0)
		for range 500 {
			id := 1 + d.Intn(d.top)
			if stamp, code := g.Submit(id); code == api.OK {
				stamps[id] = stamp
			}
			for _, in := range g.Admit() {
				if stamps[in] != last+1 { // whoever was submitted entered, and in that order
					t.Fatalf("%d enters with the stamp %d behind the stamp %d", in, stamps[in], last)
				}
				last = stamps[in]
			}
			if in := g.Stat().Inside; len(in) > 0 && d.Intn(2) == 0 {
				ends(t, g, in[d.Intn(len(in))], d.Intn(3) == 0)
			}
			if d.Intn(10) == 0 {
				g.Swept()
			}
		}
		if last < 20 {
			t.Errorf("%d have entered", last)
		}
	}
}

func TestP1513Room(t *testing.T) {
	for seed := range int64(200) {
		d := drawer{Rand: rand.New(rand.NewSource(9000 + seed)), top: 70, crowd: 8}
		most, units := 1+d.Intn(api.MaxMost), 1+d.Intn(20)
		g, b := made(t, most, units), &book{most: most, units: units}
		for range 400 {
			c := d.call(b)
			same(t, "the answer", door{g}.do(c), b.do(c))
			s := g.Stat()
			if len(s.Inside) > most || len(s.Inside)+s.Logged > units || s.Logged < 0 {
				t.Fatalf("behind %+v there are %d inside and %d logged, with %d and %d at most", c, len(s.Inside), s.Logged, most, units)
			}
			if c.what == admit && len(s.Queue) > 0 && len(s.Inside) < most && len(s.Inside)+s.Logged < units {
				t.Fatalf("behind %+v some queue, and neither limit is reached: %+v", c, s)
			}
		}
	}
}

func TestP1506TheTurnsGoRound(t *testing.T) {
	for most := 1; most <= api.MaxMost; most++ {
		g := made(t, most, 64)
		for id := range most {
			submitted(t, g, 100-id)
		}
		round := append(slices.Clone(g.Admit()), 0)
		for range 5 {
			turns(t, g, round...)
		}
	}
}
