package server_test

import (
	"fmt"
	"maps"
	"slices"
	"testing"

	"trellis/api"
	"trellis/machine"
	"trellis/records"
	"trellis/rules"
	"trellis/space"
	"trellis/syntax"
)

// bench: a client that holds all that it is told against the promises of the whole.
type bench struct {
	*client
	draw
	seed    int64
	sizes   api.Sizes
	units   int64
	most    int64
	texts   map[int64]string // of those that are known
	stamps  map[int64]int64
	live    map[int64]bool // submitted and not ended
	alone   *space.Mem     // what the commits left, run alone one after the other
	commits int64          // how many of them were not empty
	swept   int64          // of these: those ahead of the last sweep
	count   map[string]int
}

func newBench(t *testing.T, seed int64, sizes api.Sizes, units, most int64) *bench {
	t.Helper()
	x := &bench{client: newClient(t), draw: newDraw(seed), seed: seed, sizes: sizes, units: units, most: most, count: map[string]int{}}
	r := x.do(api.DoFormat, int64(sizes.Node), int64(sizes.Edge), int64(sizes.Prop), int64(sizes.Tree), units, most)
	if r.Code != api.OK {
		x.fail("DoFormat: %+v", r)
	}
	x.alone, _ = space.Load(api.Graph{})
	x.risen()
	return x
}

// risen: no transaction is known, and the log is empty.
func (x *bench) risen() {
	x.texts, x.stamps, x.live = map[int64]string{}, map[int64]int64{}, map[int64]bool{}
	x.swept = x.commits
}

func (x *bench) want(what string, got, want any) {
	x.t.Helper()
	if told(got) != told(want) {
		x.fail("seed %d: %s: %+v, want %+v", x.seed, what, got, want)
	}
}

// alives: the live ones, oldest first.
func (x *bench) alives() []int64 {
	return slices.SortedFunc(maps.Keys(x.live), func(a, b int64) int { return int(x.stamps[a] - x.stamps[b]) })
}

// begin: a program is submitted under a number that is free.
func (x *bench) begin(text string) int64 {
	x.t.Helper()
	id := int64(1)
	for x.texts[id] != "" {
		id++
	}
	r := x.submit(id, text)
	if r.Code != api.OK {
		x.fail("seed %d: DoSubmit %q: %+v", x.seed, text, r)
	}
	x.texts[id], x.stamps[id], x.live[id] = text, r.Nums[0], true
	x.laws()
	return id
}

// step: a pick; what it tells is held against the promises. False: the power has gone.
func (x *bench) step(id int64) bool {
	x.t.Helper()
	oldest := int64(0)
	if list := x.alives(); len(list) > 0 {
		oldest = list[0]
	}
	r := x.do(api.DoPick, id)
	if r.Code == api.ErrPower {
		return false
	}
	if r.Code != api.OK {
		x.fail("seed %d: DoPick %d: %+v", x.seed, id, r)
	}
	if id == 0 {
		x.want("a sweep", r.Nums, []int64{})
		x.swept = x.commits
		x.laws()
		return true
	}
	x.count[fmt.Sprint("step ", r.Nums[0])]++
	woken := r.Nums[3:][:r.Nums[2]]
	if slices.Contains(r.Nums[4+len(woken):], oldest) {
		x.fail("seed %d: P4: a pick of %d wounds the oldest one, %d: %v", x.seed, id, oldest, r.Nums)
	}
	switch r.Nums[0] {
	case api.TCommitted:
		x.ended(id, api.OK)
	case api.TFailed:
		x.ended(id, api.Errno(r.Nums[1]))
	}
	x.laws()
	return true
}

// runOn: picks of the gate's choosing. False: the power has gone.
func (x *bench) runOn(n int64) bool {
	x.t.Helper()
	r := x.do(api.DoRun, n)
	if r.Code != api.OK && r.Code != api.ErrPower {
		x.fail("seed %d: DoRun %d: %+v", x.seed, n, r)
	}
	if r.Code == api.ErrPower {
		for _, id := range r.Nums[1:] { // what they gave cannot be asked for any more
			x.lost(id)
		}
		return false
	}
	for _, id := range r.Nums[1:] {
		code := api.OK
		if id < 0 {
			id = -id
			code = api.Errno(x.result(id)[1])
		}
		x.ended(id, code)
	}
	x.unsweep()
	x.laws()
	return true
}

// unsweep: behind a DoRun it is not known who was swept: as many as may be.
func (x *bench) unsweep() { x.swept = x.commits }

// lost: it ended in a run in which the power went: what it left is known all the same.
func (x *bench) lost(id int64) {
	x.t.Helper()
	if id < 0 {
		delete(x.live, -id)
		return
	}
	delete(x.live, id)
	_, delta, _ := x.ranAlone(x.texts[id])
	x.apply(delta)
}

// ranAlone: what a program gives, run alone over what the commits left: its tables, its write set, and the error.
func (x *bench) ranAlone(text string) ([]api.Table, api.Delta, api.Errno) {
	x.t.Helper()
	program, code, _ := syntax.Program(text)
	if code != api.OK {
		x.fail("Program(%q): %d", text, code)
	}
	s := space.New(x.alone)
	var out []api.Table
	for _, q := range program {
		c, _ := machine.Compile(q)
		table, code := c.Run(s, api.MaxFuel)
		if code != api.OK {
			return out, api.Delta{}, code
		}
		out = append(out, table)
	}
	return out, s.Delta(), x.judged(s.Delta())
}

func isEmpty(x api.Delta) bool {
	return len(x.DelEdges)+len(x.DelNodes)+len(x.NewNodes)+len(x.NewEdges)+len(x.SetNodes)+len(x.SetEdges) == 0
}

// judged: the error of a commit of that write set: the rules, then the counts.
func (x *bench) judged(delta api.Delta) api.Errno {
	if isEmpty(delta) {
		return api.OK
	}
	next, _ := space.Load(x.alone.Graph())
	if _, code := next.Apply(delta); code != api.OK {
		return code
	}
	g := next.Graph()
	if _, code := rules.Check(g); code != api.OK {
		return code
	}
	nodes, edges, props, keys := records.Caps(x.sizes)
	ofNodes, ofEdges := 0, 0
	for _, n := range g.Nodes {
		ofNodes += len(n.Props)
	}
	for _, e := range g.Edges {
		ofEdges += len(e.Props)
	}
	if len(g.Nodes) > nodes || len(g.Edges) > edges || ofNodes+ofEdges > props || ofNodes > keys {
		return api.ErrFull
	}
	return api.OK
}

func (x *bench) apply(delta api.Delta) {
	if isEmpty(delta) {
		return
	}
	x.alone.Apply(delta)
	x.commits++
}

// ended: P1, P8: it gave what it gives alone over what the commits ahead of it left, and failed just where it fails then.
func (x *bench) ended(id int64, code api.Errno) {
	x.t.Helper()
	tables, delta, want := x.ranAlone(x.texts[id])
	x.count[fmt.Sprint("code ", int(code))]++
	x.want(fmt.Sprintf("the code of %d, and alone", id), code, want)
	x.want(fmt.Sprintf("the tables of %d, and alone", id), x.tables(id), tables)
	r := x.result(id)
	state := int64(api.SCommitted)
	if code != api.OK {
		state = api.SFailed
	}
	x.want("its result", r, []int64{state, int64(code), int64(len(tables)), r[3], x.stamps[id], 0})
	if r[3] > x.stamps[id]-1 {
		x.fail("seed %d: P3: %d began again %d times, with the stamp %d", x.seed, id, r[3], x.stamps[id])
	}
	if code == api.OK {
		x.apply(delta)
	}
	delete(x.live, id)
}

// laws: what holds behind every request while the server is up.
func (x *bench) laws() {
	x.t.Helper()
	g := x.graph()
	x.want("P1: the graph, and one after the other", g, x.alone.Graph())
	if by, code := rules.Check(g); code != api.OK {
		x.fail("seed %d: P9: the graph breaks a rule: %+v, %d", x.seed, by, code)
	}
	now := x.do(api.DoStatus).Nums
	inside := now[3:][:now[2]]
	x.want("the commits", now[1], x.commits)
	if logged := x.commits - x.swept; int64(len(inside))+logged > x.units || int64(len(inside)) > x.most {
		x.fail("seed %d: P5: %d inside, %d logged, %d units, most %d", x.seed, len(inside), logged, x.units, x.most)
	}
	if n := len(inside) + int(now[3+now[2]]); n != len(x.live) {
		x.fail("seed %d: %d inside and queued, %d live", x.seed, n, len(x.live))
	}
	x.noRing()
}

// noRing: P4: who waits, waits for an older or a wounded one; none, by any number of steps, for itself.
func (x *bench) noRing() {
	x.t.Helper()
	r := x.do(api.DoWaits)
	if len(r.Texts)*4 != len(r.Nums) {
		x.fail("DoWaits: %+v", r)
	}
	next := map[int64][]int64{}
	for i := 0; i < len(r.Nums); i += 4 {
		from, to := r.Nums[i], r.Nums[i+1]
		if x.stamps[to] >= x.stamps[from] && x.result(to)[5] == 0 {
			x.fail("seed %d: P4: %d waits for %d, which is neither older nor wounded", x.seed, from, to)
		}
		next[from] = append(next[from], to)
		x.count["waits"]++
	}
	for first := range next {
		seen, work := map[int64]bool{}, slices.Clone(next[first])
		for len(work) > 0 {
			id := work[0]
			work = work[1:]
			if id == first {
				x.fail("seed %d: P4: %d waits for itself", x.seed, first)
			}
			if !seen[id] {
				seen[id] = true
				work = append(work, next[id]...)
			}
		}
	}
}

// forgetOne: one that has ended, if there is one.
func (x *bench) forgetOne() {
	x.t.Helper()
	for id := range x.texts {
		if !x.live[id] {
			x.is("DoForget", x.do(api.DoForget, id), api.OK)
			delete(x.texts, id)
			return
		}
	}
}

// filled: a graph to begin with.
func (x *bench) filled() *bench {
	x.t.Helper()
	for _, text := range []string{"create (:n {k: 1})-[:r {w: 1}]->(:n {k: 2})", "create (:m {k: 1})-[:r]->(:o {j: 2})"} {
		x.begin(text)
		x.runOn(20)
	}
	return x
}

// act: something that the outside world may do. False: the power has gone.
func (x *bench) act() bool {
	x.t.Helper()
	list := x.alives()
	switch n := x.Intn(40); {
	case len(list) == 0 || len(list) < 9 && n < 6:
		x.begin(x.program())
	case n < 7:
		x.forgetOne()
	case n < 10:
		return x.step(0)
	case n < 11:
		return x.runOn(x.Int63n(8))
	default:
		return x.step(pick(x.draw, list...))
	}
	return true
}
