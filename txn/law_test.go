package txn_test

import (
	"bytes"
	"fmt"
	"slices"
	"testing"

	"trellis/api"
	"trellis/machine"
	"trellis/records"
	"trellis/rules"
	"trellis/space"
	"trellis/txn"
)

// twin: a world, the second reckoning of it over a world of its own, and what runs alone, one after the other.
type twin struct {
	*world
	d2     draw
	other  *world
	book   *book
	texts  map[int]string
	heldBy map[int]bool
	alone  *space.Mem
	rivals map[int]map[int64]bool // the older ones that were live with each, by their stamps
	count  map[string]int
	log    []string
}

func newTwin(t *testing.T, seed int64, logSectors int, z api.Sizes) *twin {
	t.Helper()
	x := &twin{world: empty(t, logSectors, z), d2: newDraw(seed), other: empty(t, logSectors, z), texts: map[int]string{}, heldBy: map[int]bool{}, rivals: map[int]map[int64]bool{}, count: map[string]int{}}
	x.book = newBook(x.other.s)
	x.alone, _ = space.Load(api.Graph{})
	return x
}

func (x *twin) note(format string, of ...any) { x.log = append(x.log, fmt.Sprintf(format, of...)) }

func (x *twin) same(what string, got, want any) {
	x.t.Helper()
	if g, w := fmt.Sprintf("%+v", got), fmt.Sprintf("%+v", want); g != w {
		x.t.Errorf("%s: %s, want %s", what, g, w)
		for _, line := range x.log {
			x.t.Log(line)
		}
		x.t.FailNow()
	}
}

// begin: in both.
func (x *twin) begin(id int, stamp int64, text string, held bool) {
	x.t.Helper()
	if held {
		code := x.s.Reserve()
		x.same("Reserve", x.other.s.Reserve(), code)
		held = code == api.OK
	}
	x.note("begin %d, stamp %d, held %v: %s", id, stamp, held, text)
	list := program(x.t, text)
	code := x.m.Begin(id, stamp, list, held)
	x.same("Begin", code, x.book.begin(id, stamp, list, held))
	if code != api.OK {
		if held {
			x.s.Release()
			x.other.s.Release()
		}
		return
	}
	x.texts[id], x.heldBy[id], x.rivals[id] = text, held, map[int64]bool{}
	x.meet()
}

// meet: who is live with whom.
func (x *twin) meet() {
	for _, id := range x.m.Live() {
		mine, _ := x.m.Stat(id)
		for _, other := range x.m.Live() {
			if its, _ := x.m.Stat(other); its.Stamp < mine.Stamp {
				x.rivals[id][its.Stamp] = true
			}
		}
	}
}

// step: in both; then all that is told must be the same, and all laws must hold.
func (x *twin) step(id int) {
	x.t.Helper()
	s, code := x.m.Step(id)
	want, fault := x.book.step(id)
	x.note("step %d: %+v, %d", id, s, code)
	x.same(fmt.Sprintf("Step(%d)", id), []any{s, code}, []any{want, fault})
	x.agree()
	x.count[fmt.Sprint(s.What)]++
	if code != api.OK {
		return
	}
	switch s.What {
	case api.TCommitted, api.TFailed:
		x.replay(id, s)
	}
	x.laws()
}

// agree: both tell the same, hold the same locks, and have the same on their disks.
func (x *twin) agree() {
	x.t.Helper()
	x.same("Live", x.m.Live(), x.book.live())
	x.same("Waits", x.m.Waits(), x.book.l.Waits())
	for id := range 14 {
		a, code := x.m.Stat(id)
		b, fault := x.book.stat(id)
		x.same("Stat", []any{a, code}, []any{b, fault})
		list, code := x.m.Tables(id)
		want, fault := x.book.tables(id)
		x.same("Tables", []any{list, code}, []any{want, fault})
		is, code := x.m.Wounded(id)
		was, fault := x.book.wounded(id)
		x.same("Wounded", []any{is, code}, []any{was, fault})
		by, code := txn.LocksOf(x.m).Wounders(id)
		old, fault := x.book.l.Wounders(id)
		x.same("the wounders", []any{by, code}, []any{old, fault})
	}
	for _, r := range resources() {
		x.same("the holders", txn.LocksOf(x.m).Holders(r), x.book.l.Holders(r))
		x.same("the queue", txn.LocksOf(x.m).Queue(r), x.book.l.Queue(r))
	}
	x.same("the log", x.s.Stat(), x.other.s.Stat())
	if !bytes.Equal(x.d.Image(), x.other.d.Image()) {
		x.same("the disks", "unlike", "alike")
	}
}

// ranAlone: what a program gives, run alone over the graph: its tables, the write set, and the error.
func ranAlone(t *testing.T, m *space.Mem, text string) ([]api.Table, api.Delta, api.Errno) {
	t.Helper()
	s := space.New(m)
	var out []api.Table
	for _, q := range program(t, text) {
		c, _ := machine.Compile(q)
		table, code := c.Run(s, api.MaxFuel)
		if code != api.OK {
			return out, api.Delta{}, code
		}
		out = append(out, table)
	}
	return out, s.Delta(), api.OK
}

// judged: the error of a commit of that write set, run alone.
func judged(m *space.Mem, x api.Delta, z api.Sizes) api.Errno {
	if deltaIsEmpty(x) {
		return api.OK
	}
	next, _ := space.Load(m.Graph())
	if _, code := next.Apply(x); code != api.OK {
		return code
	}
	if _, code := rules.Check(next.Graph()); code != api.OK {
		return code
	}
	nodes, edges, props, keys := records.Caps(z)
	g := next.Graph()
	ofNodes, ofEdges := 0, 0
	for _, n := range g.Nodes {
		ofNodes += len(n.Props)
	}
	for _, e := range g.Edges {
		ofEdges += len(e.Props)
	}
	if len(g.Nodes) > nodes || len(g.Edges) > edges || ofNodes+ofEdges > props || ofNodes > keys {
		return api.ErrFull
	}
	return api.OK
}

// replay: P1409: one that has ended gave what it gives alone over what the commits ahead of it left.
func (x *twin) replay(id int, s api.Step) {
	x.t.Helper()
	tables, delta, code := ranAlone(x.t, x.alone, x.texts[id])
	if code == api.OK {
		code = judged(x.alone, delta, x.s.Sizes())
	}
	if s.Code == api.ErrLogFull && !x.heldBy[id] && code == api.OK {
		code = s.Code
	}
	x.count[fmt.Sprint("code ", int(s.Code))]++
	x.same(fmt.Sprintf("the code of %d, and alone", id), s.Code, code)
	got, _ := x.m.Tables(id)
	x.same(fmt.Sprintf("the tables of %d, and alone", id), got, tables)
	if s.What == api.TCommitted {
		x.alone.Apply(delta)
	}
	x.same("the graph, and one after the other", x.graph(), x.alone.Graph())
}

// laws: P1404, P1410, P1412, and who is in the lock table.
func (x *twin) laws() {
	x.t.Helper()
	stamps := map[int]int64{}
	var inside []int
	for _, id := range x.m.Live() {
		s, _ := x.m.Stat(id)
		stamps[id] = s.Stamp
		if s.State != api.SHeldBack {
			inside = append(inside, id)
		}
		for _, stamp := range txn.AwaitedBy(x.m, id) {
			if stamp >= s.Stamp {
				x.same("what is held back waits for", stamp, "an older one")
			}
		}
		if s.Backs > len(x.rivals[id]) {
			x.same("backs", s.Backs, len(x.rivals[id]))
		}
	}
	x.same("in the lock table", txn.LocksOf(x.m).Live(), inside)
	for _, w := range x.m.Waits() {
		if hurt, _ := x.m.Wounded(w.To); stamps[w.To] >= stamps[w.From] && !hurt {
			x.same("a wait", w, "one for an older or a wounded one")
		}
	}
	by, code := rules.Check(x.graph())
	x.same("the rules", []any{by, code}, []any{api.Breach{}, api.OK})
}

// forget: in both.
func (x *twin) forget(id int) {
	x.t.Helper()
	x.note("forget %d", id)
	x.same("Forget", x.m.Forget(id), x.book.forget(id))
}

// sweep: in both.
func (x *twin) sweep() {
	x.t.Helper()
	n, code := x.s.Checkpoint(api.MaxPages)
	m, fault := x.other.s.Checkpoint(api.MaxPages)
	x.note("sweep: %d, %d", n, code)
	x.same("Checkpoint", []any{n, code}, []any{m, fault})
}

// drawnStep: something that the outside world may do.
func (x *twin) drawnStep(next *int64) {
	x.t.Helper()
	d := x.d2
	live := x.m.Live()
	switch n := d.Intn(40); {
	case len(live) == 0 || len(live) < 8 && n < 5:
		stamp := *next
		*next += 1 + int64(d.Intn(3))
		if d.one(6) {
			stamp = 1 + d.Int63n(*next)
		}
		x.begin(1+d.Intn(12), stamp, d.program(), d.one(2))
	case n < 6:
		x.forget(d.Intn(13))
	case n < 7:
		x.step(d.Intn(14))
	case n < 9:
		x.sweep()
	default:
		x.step(pick(d, live...))
	}
}

// finish: all end, if each is picked again and again; within the bound that the whole promises.
func (x *twin) finish() {
	x.t.Helper()
	n := len(x.m.Live())
	for range n * (5 + 2*n + 6) {
		for _, id := range x.m.Live() {
			x.step(id)
			if x.d2.one(4) {
				x.sweep()
			}
		}
	}
	x.same("Live at the end", x.m.Live(), []int{})
	x.same("what is reserved at the end", x.s.Stat().Log.Reserved, 0)
}

// TestP1409Drawn: drawn programs, begun and picked in a drawn order.
func TestP1409Drawn(t *testing.T) {
	count := map[string]int{}
	for seed := range int64(200) {
		logSectors := 500
		if seed%4 == 0 {
			logSectors = 40 // no room for a reservation, and soon full
		}
		x := newTwin(t, seed, logSectors, usual)
		next := int64(1)
		for _, text := range []string{"create (:n {k: 1})-[:r {w: 1}]->(:n {k: 2})", "create (:m {k: 1})-[:r]->(:o {j: 2})"} {
			x.begin(13, next, text, false)
			next++
			for len(x.m.Live()) > 0 {
				x.step(13)
			}
			x.forget(13)
		}
		for range 120 {
			x.drawnStep(&next)
		}
		x.finish()
		for what, n := range x.count {
			count[what] += n
		}
	}
	for _, what := range []string{"1", "2", "3", "4", "5", "6", "code 0", "code 4", "code 10", "code 12", "code 31", "code 72", "code 75", "code 180", "code 181"} {
		if count[what] < 10 {
			t.Errorf("too few of the drawn steps are of the kind %s: %v", what, count)
		}
	}
}

// TestP1409Crowded: many that want the same few nodes, begun at once; picked as the draw says.
func TestP1409Crowded(t *testing.T) {
	backs := 0
	for seed := range int64(60) {
		x := newTwin(t, seed, 900, usual)
		x.begin(13, 99, "create (:n {k: 1})-[:r {w: 1}]->(:n {k: 2})-[:r]->(:m {k: 3})", false)
		for len(x.m.Live()) > 0 {
			x.step(13)
		}
		order := x.d2.Perm(10)
		for i := range 10 {
			x.begin(i+1, int64(order[i]+1), x.d2.program(), x.d2.one(2))
		}
		for range 60 {
			if live := x.m.Live(); len(live) > 0 {
				x.step(pick(x.d2, live...))
			}
		}
		x.finish()
		for id := range 13 {
			s, _ := x.m.Stat(id)
			backs += s.Backs
		}
	}
	if backs < 100 {
		t.Errorf("%d went back: too few", backs)
	}
}

// TestP1405Drawn: the power goes somewhere: both reckonings still agree, nothing is told otherwise than ahead of it, and the store, opened again, has the commits that were told, and at most the one that was on the way.
func TestP1405Drawn(t *testing.T) {
	onTheWay := 0
	for seed := range int64(120) {
		x := newTwin(t, seed, 500, usual)
		next := int64(1)
		for range 40 {
			x.drawnStep(&next)
		}
		n := x.d2.Intn(12)
		x.d.Cut(n)
		x.other.d.Cut(n)
		for range 300 {
			ahead := x.aside()
			id := pick(x.d2, append(x.m.Live(), 1)...)
			x.step(id)
			if x.d.Stat().Down {
				x.same("what is told behind the loss", x.aside(), ahead)
				break
			}
			if len(x.m.Live()) == 0 {
				x.begin(1+x.d2.Intn(12), next, x.d2.program(), false)
				next++
			}
		}
		if !x.d.Stat().Down {
			continue
		}
		onTheWay++
		want := []string{fmt.Sprint(x.alone.Graph())}
		for _, id := range x.m.Live() {
			if _, delta, code := ranAlone(t, x.alone, x.texts[id]); code == api.OK {
				m, _ := space.Load(x.alone.Graph())
				m.Apply(delta)
				want = append(want, fmt.Sprint(m.Graph()))
			}
		}
		keep := make([]bool, len(x.d.Pending()))
		for i := range keep {
			keep[i] = x.d2.one(2)
		}
		x.d.Crash(keep)
		x.open()
		if got := fmt.Sprint(x.graph()); !slices.Contains(want, got) {
			t.Fatalf("seed %d: behind the loss: %s, want one of %v", seed, got, want)
		}
	}
	if onTheWay < 60 {
		t.Errorf("%d losses of power are too few", onTheWay)
	}
}
