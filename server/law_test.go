package server_test

import (
	"fmt"
	"slices"
	"testing"

	"trellis/api"
	"trellis/syntax"
)

var usual = api.Sizes{Node: 3, Edge: 3, Prop: 8, Tree: 12}

// wants: so many of the drawn things must have come at least.
func wants(t *testing.T, count map[string]int, least int, words ...string) {
	t.Helper()
	for _, what := range words {
		if count[what] < least {
			t.Errorf("too few of the kind %q: %v", what, count)
		}
	}
}

// TestP1Drawn: drawn programs, submitted and picked in a drawn order: one after the other (P1), no ring (P4), room (P5), no trace of what fails (P8), the rules (P9).
func TestP1Drawn(t *testing.T) {
	count := map[string]int{}
	for seed := range int64(120) {
		x := newBench(t, seed, usual, 2+seed%7, 1+seed%6).filled()
		for range 120 {
			if !x.act() {
				x.fail("the power has gone by itself")
			}
		}
		x.runOn(3000)
		x.want("live at the end", len(x.live), 0)
		for what, n := range x.count {
			count[what] += n
		}
	}
	wants(t, count, 10, "step 1", "step 2", "step 3", "step 4", "step 5", "step 6", "waits", "code 0", "code 4", "code 10", "code 12", "code 72", "code 75", "code 180", "code 181")
}

// TestP1Crowded: many that want the same few nodes, all inside at once.
func TestP1Crowded(t *testing.T) {
	count := map[string]int{}
	for seed := range int64(40) {
		x := newBench(t, seed, usual, 64, 16).filled()
		for range 14 {
			x.begin(x.program())
		}
		for len(x.live) > 0 {
			x.step(pick(x.draw, x.alives()...))
			if x.one(6) {
				x.step(0)
			}
		}
		for what, n := range x.count {
			count[what] += n
		}
	}
	wants(t, count, 50, "step 2", "step 3", "step 4", "waits")
}

// windows: cuts picks into windows.
type windows struct {
	*bench
	need   map[int64]bool  // who has not had its pick in this window
	number int64           // of the windows that have ended
	since  map[int64]int64 // the window in which each was submitted
	n, l   int64
}

func newWindows(x *bench) *windows {
	w := &windows{bench: x, since: map[int64]int64{}}
	w.begins()
	return w
}

// begins: a window: all inside, and the sweeper, need a pick.
func (w *windows) begins() {
	now := w.do(api.DoStatus).Nums
	w.need = map[int64]bool{0: true}
	for _, id := range now[3:][:now[2]] {
		w.need[id] = true
	}
}

func (w *windows) submitted(text string) {
	program, _, _ := syntax.Program(text)
	w.l = max(w.l, int64(len(program)))
	w.n++
	w.since[w.begin(text)] = w.number
}

func (w *windows) picked(id int64) {
	w.step(id)
	delete(w.need, id)
	for id := range w.need {
		if id != 0 && !w.live[id] {
			delete(w.need, id)
		}
	}
	if len(w.need) == 0 {
		w.number++
		w.begins()
	}
}

// late: has one of the live ones had more windows than there may be?
func (w *windows) late() bool {
	bound := w.n * (w.l + 2*w.n + 6)
	for id := range w.live {
		if w.number-w.since[id] > bound {
			return true
		}
	}
	return false
}

// choices: whom the outside world picks, of those who need a pick and of all inside; oldest first.
var choices = map[string]func(w *windows, need, inside []int64) int64{
	"any":            func(w *windows, _, inside []int64) int64 { return pick(w.draw, append(inside, 0)...) },
	"the oldest":     func(_ *windows, need, _ []int64) int64 { return need[0] },
	"the youngest":   func(_ *windows, need, _ []int64) int64 { return need[len(need)-1] },
	"one who needs":  func(w *windows, need, _ []int64) int64 { return pick(w.draw, need...) },
	"most the young": func(w *windows, need, inside []int64) int64 { return mostly(w, need, inside[len(inside)-1]) },
	"most the old":   func(w *windows, need, inside []int64) int64 { return mostly(w, need, inside[0]) },
}

// mostly: that one, but now and then one who needs a pick.
func mostly(w *windows, need []int64, id int64) int64 {
	if w.one(4) {
		return pick(w.draw, need...)
	}
	return id
}

// TestP3AllEnd: whoever is picked: within so many windows each has ended, and began again no more often than there are older ones.
func TestP3AllEnd(t *testing.T) {
	for name, choose := range choices {
		t.Run(name, func(t *testing.T) {
			for seed := range int64(12) {
				w := newWindows(newBench(t, seed, usual, 1+seed%5, 1+seed%4).filled())
				for range 8 {
					w.submitted(w.program())
				}
				for more := 6; len(w.live) > 0; {
					if more > 0 && w.one(8) {
						w.submitted(w.program())
						more--
					}
					now := w.do(api.DoStatus).Nums
					inside := slices.Clone(now[3:][:now[2]])
					if len(inside) == 0 {
						w.picked(0)
						continue
					}
					var need []int64
					for _, id := range append(slices.Clone(inside), 0) {
						if w.need[id] {
							need = append(need, id)
						}
					}
					w.picked(choose(w, need, inside))
					if w.late() {
						w.fail("seed %d: P3: some have not ended: %v", seed, w.alives())
					}
				}
			}
		})
	}
}

// TestP3Run: of the gate's own choosing (most + 1) * B picks leave none that has not ended.
func TestP3Run(t *testing.T) {
	for seed := range int64(60) {
		x := newBench(t, seed, usual, 1+seed%9, 1+seed%16).filled()
		n, l := int64(1+seed%12), int64(1)
		for range n {
			text := x.program()
			program, _, _ := syntax.Program(text)
			l = max(l, int64(len(program)))
			x.begin(text)
		}
		x.runOn((x.most + 1) * n * (l + 2*n + 6))
		x.want("live", len(x.live), 0)
	}
}

// TestP3Crowd: as many as may be live, all of which want the same nodes.
func TestP3Crowd(t *testing.T) {
	x := newBench(t, 1, usual, 5, 4).filled()
	for i := range api.MaxLive {
		x.begin(fmt.Sprint("match (a:n) set a.k = a.k + ", 1+i%2, "; match (a:m) set a.k = a.k + 1; match (a:n) return a.k"))
	}
	x.runOn(api.MaxRun)
	x.want("live", len(x.live), 0)
	x.want("the last one's", x.answer("match (a) return a.k"), "97; 98; 65; null")
}

// TestP4TheOldestIsNeverWounded: a ring of wants, in each order of picks: who is oldest goes through.
func TestP4TheOldestIsNeverWounded(t *testing.T) {
	for first := range 3 {
		for second := range 3 {
			x := newBench(t, 0, usual, 9, 4)
			x.begin("create (:a {k: 1}), (:b {k: 1}), (:c {k: 1})")
			x.runOn(9)
			labels := []string{"a", "b", "c"}
			var ids []int64
			for i := range 3 {
				ids = append(ids, x.begin(fmt.Sprintf("match (x:%s) set x.k = %d; match (x:%s) set x.k = %d", labels[i], i, labels[(i+1)%3], i)))
			}
			for _, i := range []int{first, second} {
				x.step(ids[i])
			}
			for _, i := range []int{0, 1, 2, 0, 1, 2} {
				if x.live[ids[i]] {
					x.step(ids[i])
				}
			}
			x.want("the oldest one began again", x.result(ids[0])[3], int64(0))
			x.runOn(99)
			x.want("live", len(x.live), 0)
		}
	}
}
