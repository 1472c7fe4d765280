package locks_test

import (
	"math/rand"
	"slices"
	"testing"

	"trellis/api"
	"trellis/locks"
)

// life: a table in the middle of a drawn script, and what was seen of it.
type life struct {
	x      *locks.Table
	stamps map[int]int64
	wounds map[int][]int // the wounders of each, behind the last call
	made   []wish        // the requests that are no upgrades and wait, in the order in which they were made
}

// wish: a request that is no upgrade.
type wish struct {
	r   api.Res
	ask api.Held
}

// drawn: goes through drawn scripts; look is called behind each call, with who was live ahead of it, oldest first.
func drawn(t *testing.T, look func(t *testing.T, l *life, before []int)) {
	for seed := range int64(60) {
		r := rand.New(rand.NewSource(1000 + seed))
		l := &life{x: locks.New(), stamps: map[int]int64{}, wounds: map[int][]int{}}
		few := asked[:1+r.Intn(4)]
		for range 150 {
			before := l.byAge()
			txn := 1 + r.Intn(8)
			switch n := r.Intn(16); {
			case l.stamps[txn] == 0:
				if stamp := 1 + r.Int63n(50); l.x.Begin(txn, stamp) == api.OK {
					l.stamps[txn], l.wounds[txn] = stamp, nil
				}
			case n == 0:
				l.end(t, txn)
			default:
				l.ask(t, txn, few[r.Intn(len(few))], 1+r.Intn(5))
			}
			look(t, l, before)
			for _, txn := range l.byAge() {
				l.wounds[txn] = l.wounders(t, txn)
			}
		}
	}
}

func (l *life) byAge() []int {
	out := l.x.Live()
	slices.SortFunc(out, func(a, b int) int { return int(l.stamps[a] - l.stamps[b]) })
	return out
}

func (l *life) wounders(t *testing.T, txn int) []int {
	t.Helper()
	out, code := l.x.Wounders(txn)
	wants(t, "Wounders", code, api.OK)
	return out
}

func (l *life) ask(t *testing.T, txn int, r api.Res, mode int) {
	t.Helper()
	now, _ := l.x.Mode(txn, r)
	answer, _, code := l.x.Ask(txn, r, mode)
	if now != 0 || code != api.OK {
		return
	}
	l.made = append(l.made, wish{r, held(txn, mode)})
	if answer == api.LGranted {
		l.granted(t, txn)
	}
}

func (l *life) end(t *testing.T, txn int) {
	t.Helper()
	got, _, code := l.x.End(txn)
	wants(t, "End", code, api.OK)
	delete(l.stamps, txn)
	l.made = slices.DeleteFunc(l.made, func(w wish) bool { return w.ask.Txn == txn })
	for _, txn := range got {
		l.granted(t, txn)
	}
}

// granted: no request that was made ahead of a granted one, and does not fit it, waits on (P812).
func (l *life) granted(t *testing.T, txn int) {
	t.Helper()
	i := slices.IndexFunc(l.made, func(w wish) bool { return w.ask.Txn == txn })
	if i < 0 {
		return // an upgrade
	}
	for _, w := range l.made[:i] {
		if w.r == l.made[i].r && !fit(w.ask.Mode, l.made[i].ask.Mode) {
			t.Errorf("on %v %v is granted ahead of %v", w.r, l.made[i].ask, w.ask)
		}
	}
	l.made = slices.Delete(l.made, i, i+1)
}

// TestP809Drawn: no two hold what does not fit.
func TestP809Drawn(t *testing.T) {
	drawn(t, func(t *testing.T, l *life, _ []int) {
		for _, r := range asked {
			all := l.x.Holders(r)
			for i, a := range all {
				for _, b := range all[:i] {
					if !fit(a.Mode, b.Mode) {
						t.Errorf("%v is held by %v and %v", r, a, b)
					}
				}
			}
		}
	})
}

// TestP810Drawn: each waits for older ones and for wounded ones alone, and for itself by no number of steps; the oldest one is not wounded.
func TestP810Drawn(t *testing.T) {
	drawn(t, func(t *testing.T, l *life, before []int) {
		next := map[int][]int{}
		for _, w := range l.x.Waits() {
			if is, _ := l.x.Wounded(w.To); !is && l.stamps[w.To] >= l.stamps[w.From] {
				t.Errorf("%d waits for %d, which is younger, and not wounded", w.From, w.To)
			}
			next[w.From] = append(next[w.From], w.To)
		}
		for _, txn := range l.x.Live() {
			if comesTo(next, next[txn], txn, 0) {
				t.Errorf("%d waits for itself: %v", txn, next)
			}
		}
		after := l.byAge()
		if len(before) > 0 && len(after) > 0 && before[0] == after[0] && len(l.wounders(t, after[0])) > len(l.wounds[after[0]]) {
			t.Errorf("the oldest one, %d, was wounded", after[0])
		}
	})
}

// comesTo: does a way along the waits come to that one?
func comesTo(next map[int][]int, from []int, to, steps int) bool {
	return steps < 9 && slices.ContainsFunc(from, func(n int) bool { return n == to || comesTo(next, next[n], to, steps+1) })
}

// TestP811Drawn: something stands in the way of every request: by what is told of its resource.
func TestP811Drawn(t *testing.T) {
	drawn(t, func(t *testing.T, l *life, _ []int) {
		for _, r := range asked {
			queue, holders := l.x.Queue(r), l.x.Holders(r)
			for i, q := range queue {
				stands := func(h api.Held) bool { return h.Txn != q.Txn && !fit(h.Mode, q.Mode) }
				if !slices.ContainsFunc(holders, stands) && !slices.ContainsFunc(queue[:i], stands) {
					t.Errorf("on %v nothing stands in the way of %v: held %v, asked %v", r, q, holders, queue)
				}
			}
		}
	})
}

// TestP811Last: who is left alone waits for nothing, in whatever order the others end.
func TestP811Last(t *testing.T) {
	for seed := range int64(40) {
		r := rand.New(rand.NewSource(seed))
		x := made(t, 8)
		for range 60 {
			x.Ask(1+r.Intn(8), asked[r.Intn(3)], 1+r.Intn(5))
		}
		order := r.Perm(8)
		for _, i := range order[:7] {
			x.End(1 + i)
		}
		res, goal, code := x.Waiting(1 + order[7])
		same(t, "Waiting of the last one", []any{res, goal, code}, []any{api.Res{}, 0, api.OK})
		same(t, "Waits()", x.Waits(), []int{})
	}
}

// TestP812Drawn: of two requests that do not fit the first one is granted first.
func TestP812Drawn(t *testing.T) {
	drawn(t, func(*testing.T, *life, []int) {})
}

// TestP812Line: a line of requests that do not fit is served from its front, one by one, without those that end.
func TestP812Line(t *testing.T) {
	x := made(t, 9)
	gets(t, x, 9, n7, api.MX)
	waits(t, x, 4, n7, api.MX, 9)
	for _, txn := range []int{6, 5, 8, 7} {
		if state, _, code := x.Ask(txn, n7, api.MX); state != api.LWaits || code != api.OK {
			t.Errorf("Ask(%d) = %d, %d", txn, state, code)
		}
	}
	ends(t, x, 5)
	ends(t, x, 9, 4)
	ends(t, x, 4, 6)
	ends(t, x, 8)
	ends(t, x, 6, 7)
}

// TestP813Drawn: who is wounded holds or asks for something, and by an older one alone.
func TestP813Drawn(t *testing.T) {
	drawn(t, func(t *testing.T, l *life, _ []int) {
		for txn, stamp := range l.stamps {
			now := l.wounders(t, txn)
			for _, by := range now {
				if !slices.Contains(l.wounds[txn], by) && l.stamps[by] >= stamp {
					t.Errorf("%d (stamp %d) was wounded by %d (stamp %d)", txn, stamp, by, l.stamps[by])
				}
			}
			_, goal, _ := l.x.Waiting(txn)
			has := goal != 0
			for _, r := range asked {
				mode, _ := l.x.Mode(txn, r)
				has = has || mode != 0
			}
			if !has && len(now) > 0 {
				t.Errorf("%d holds nothing, asks for nothing, and is wounded by %v", txn, now)
			}
		}
	})
}

// TestP810Oldest: one that was wounded stays wounded when it has become the oldest one, and is not wounded any more.
func TestP810Oldest(t *testing.T) {
	x := made(t, 3)
	gets(t, x, 2, n7, api.MX)
	waits(t, x, 1, n7, api.MS, 2)
	ends(t, x, 1)
	waits(t, x, 3, n7, api.MS)
	hurt(t, x, 2, 1)
	awaits(t, x, n7, [2]int{3, 2})
}
