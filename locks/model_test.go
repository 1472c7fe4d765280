package locks_test

import (
	"fmt"
	"math/rand"
	"slices"
	"testing"

	"trellis/api"
	"trellis/locks"
)

// pair: a table and a book that are asked the same.
type pair struct {
	x *locks.Table
	b *book
	// script: what was asked, as it is told where the two differ.
	script []string
}

func newPair() *pair { return &pair{x: locks.New(), b: newBook()} }

// differ: ends the test, with the script, where the two do not tell the same.
func (p *pair) differ(t *testing.T, what string, got, want any) {
	t.Helper()
	p.script = append(p.script, what)
	if g, w := fmt.Sprint(got), fmt.Sprint(want); g != w {
		t.Fatalf("%v = %s, want %s", p.script, g, w)
	}
}

func (p *pair) begin(t *testing.T, txn int, stamp int64) {
	t.Helper()
	p.differ(t, fmt.Sprintf("Begin(%d, %d)", txn, stamp), p.x.Begin(txn, stamp), p.b.begin(txn, stamp))
}

func (p *pair) ask(t *testing.T, txn int, r api.Res, mode int) (int, []int) {
	t.Helper()
	got, hurt, code := p.x.Ask(txn, r, mode)
	want, wounded, fault := p.b.ask(txn, r, mode)
	p.differ(t, fmt.Sprintf("Ask(%d, %v, %d)", txn, r, mode), []any{got, hurt, code}, []any{want, wounded, fault})
	return got, hurt
}

func (p *pair) end(t *testing.T, txn int) ([]int, []int) {
	t.Helper()
	got, hurt, code := p.x.End(txn)
	want, wounded, fault := p.b.end(txn)
	p.differ(t, fmt.Sprintf("End(%d)", txn), []any{got, hurt, code}, []any{want, wounded, fault})
	return got, hurt
}

// compare: all that the two tell.
func (p *pair) compare(t *testing.T) {
	t.Helper()
	if got, want := told(p.x), p.b.told(); got != want {
		t.Fatalf("behind %v the table is\n%s\nwant\n%s", p.script, got, want)
	}
}

// TestP805Drawn: drawn scripts, in which numbers come back with other stamps, against a second reckoning.
func TestP805Drawn(t *testing.T) {
	for seed := range int64(100) {
		r := rand.New(rand.NewSource(seed))
		p := newPair()
		few := asked[:1+r.Intn(len(asked))]
		txns, modes := 2+r.Intn(9), 1+r.Intn(5)
		for range 120 {
			txn := 1 + r.Intn(txns)
			switch n := r.Intn(12); {
			case n == 0:
				p.end(t, txn)
			case n < 4:
				p.begin(t, txn, 1+r.Int63n(40))
			default:
				p.ask(t, txn, few[r.Intn(len(few))], 1+r.Intn(modes)*r.Intn(2)+r.Intn(6-modes))
			}
			p.compare(t)
		}
	}
}

// step: of a script with three transactions on one resource: an Ask with a mode, or an End (mode 0).
type step struct{ txn, mode int }

// TestP804AllShort: all scripts of four steps, for two ways in which the ages stand to the numbers.
func TestP804AllShort(t *testing.T) {
	var steps []step
	for txn := 1; txn <= 3; txn++ {
		for mode := range 6 {
			steps = append(steps, step{txn, mode})
		}
	}
	for _, stamps := range [][]int64{{3, 1, 2}, {2, 3, 1}} {
		goOn(t, stamps, steps, nil)
	}
}

// goOn: that script, and all that go on from it.
func goOn(t *testing.T, stamps []int64, steps, script []step) {
	if len(script) == 4 {
		play(t, stamps, script)
		return
	}
	for _, s := range steps {
		if len(script) == 0 && s.mode == 0 || len(script) == 3 && s.mode == 0 && s.txn == 3 {
			continue // nothing to end; or what the other two transactions have shown
		}
		goOn(t, stamps, steps, append(slices.Clip(script), s))
	}
}

// play: behind the last step all that is told of the one resource is what the book tells.
func play(t *testing.T, stamps []int64, script []step) {
	t.Helper()
	x, b := locks.New(), newBook()
	for i, s := range stamps {
		x.Begin(i+1, s)
		b.begin(i+1, s)
	}
	for _, s := range script {
		var got, want [2][]int
		if s.mode == 0 {
			got[0], got[1], _ = x.End(s.txn)
			want[0], want[1], _ = b.end(s.txn)
		} else {
			answer, hurt, code := x.Ask(s.txn, n7, s.mode)
			state, wounded, fault := b.ask(s.txn, n7, s.mode)
			got, want = [2][]int{{answer, int(code)}, hurt}, [2][]int{{state, int(fault)}, wounded}
		}
		if !slices.Equal(got[0], want[0]) || !slices.Equal(got[1], want[1]) {
			t.Fatalf("stamps %v, %v: at %v %v, want %v", stamps, script, s, got, want)
		}
	}
	for txn := 1; txn <= 3; txn++ {
		mode, _ := x.Mode(txn, n7)
		by, _ := x.Wounders(txn)
		if mode != b.held[n7][txn] || len(by) != len(b.wounders[txn]) {
			t.Fatalf("stamps %v, %v: %d holds %d, wounded by %v; want %d, %v", stamps, script, txn, mode, by, b.held[n7][txn], b.wounders[txn])
		}
	}
	var queue []api.Held
	for _, q := range b.queues[n7] {
		queue = append(queue, held(q.txn, q.goal))
	}
	if got := x.Queue(n7); !slices.Equal(got, queue) {
		t.Fatalf("stamps %v, %v: Queue = %v, want %v", stamps, script, got, queue)
	}
}
