package machine_test

import (
	"fmt"
	"slices"
	"strings"
	"testing"

	"trellis/api"
	"trellis/check"
	"trellis/machine"
	"trellis/space"
	"trellis/syntax"
	"trellis/value"
)

// drawnFuel: for what is drawn; some queries go beyond it.
const drawnFuel = 3000

// trial: a query over a graph, ahead of which the space was changed.
type trial struct {
	seed int64
	g    api.Graph
	q    api.Query
	text string
	code *machine.Code
}

// trialOf: false: the query that was drawn makes no sense.
func trialOf(t *testing.T, seed int64) (trial, bool) {
	t.Helper()
	d := newDraw(seed)
	x := trial{seed: seed, g: d.graph(), text: d.query()}
	x.q = parsed(t, x.text)
	var code api.Errno
	x.code, code = machine.Compile(x.q)
	if _, err := check.Check(x.q); (err != nil) != (code == api.ErrCode) || (code == api.OK) != (x.code != nil) {
		t.Errorf("Compile(%q) = %d, Check: %v", x.text, code, err)
	}
	return x, code == api.OK
}

// space: one that was changed as always in this trial.
func (x trial) space(t *testing.T) (*spy, *space.Space) {
	v, s := over(t, x.g)
	newDraw(x.seed + 1000000).change(s)
	v.log = nil
	return v, s
}

// agrees: the program and the second reckoning must answer the same, ask the same in the same order, and leave the same. failAt: which asking of the graph is answered with an error. How much was asked of the space, and of the graph.
func (x trial) agrees(t *testing.T, fuel, failAt int, fault api.Errno) (spent, asked, rows int, code api.Errno) {
	t.Helper()
	v, s := x.space(t)
	w, u := x.space(t)
	v.failAt, v.code, w.failAt, w.code = failAt, fault, failAt, fault
	got, answer := x.code.Run(s, fuel)
	want, spent, code := bookRun(x.q, u, fuel)
	rows = len(want.Rows)
	what := fmt.Sprintf("seed %d: %s (fuel %d, fault %d at %d)", x.seed, x.text, fuel, fault, failAt)
	same(t, what, answer, code)
	same(t, what, got, want)
	same(t, what+": asked", v.log, w.log)
	same(t, what+": the write set", s.Delta(), u.Delta())
	same(t, what+": the mark", s.Mark(), u.Mark())
	return spent, len(w.log), rows, code
}

// TestP1305Drawn: drawn queries; each again with less fuel than it needs, and with a fault of the graph somewhere.
func TestP1305Drawn(t *testing.T) {
	codes := map[api.Errno]int{}
	senseless, full, long := 0, 0, 0
	for seed := range int64(2500) {
		x, sound := trialOf(t, seed)
		if !sound {
			senseless++
			continue
		}
		spent, asked, rows, code := x.agrees(t, drawnFuel, -1, api.OK)
		codes[code]++
		if rows > 0 {
			full++
		}
		if spent > 20 {
			long++
		}
		d := newDraw(seed + 2000000)
		for range 3 {
			if spent > 0 {
				x.agrees(t, d.Intn(spent), -1, api.OK)
			}
			if asked > 0 {
				x.agrees(t, drawnFuel, d.Intn(asked), pick(d, api.ErrBlocked, api.ErrGone, api.ErrPower, 9999))
			}
		}
		if code == api.OK {
			x.agrees(t, spent, -1, api.OK)
		}
		if t.Failed() {
			return
		}
	}
	if senseless > 600 || full < 500 || long < 700 || codes[api.ErrKind] < 100 {
		t.Errorf("too few of the drawn queries say something: %d make no sense, %d give rows, %d ask much, answers: %v", senseless, full, long, codes)
	}
}

// TestP1307Drawn: behind an error the space is as it was, and shows what it did.
func TestP1307Drawn(t *testing.T) {
	faults := 0
	for seed := range int64(1500) {
		x, sound := trialOf(t, seed)
		if !sound {
			continue
		}
		d := newDraw(seed + 3000000)
		v, s := x.space(t)
		unmoved, was := still(t, s), wholeOf(s)
		v.log, v.failAt, v.code = nil, d.Intn(30), api.ErrBlocked
		got, code := x.code.Run(s, d.Intn(60))
		if code == api.OK {
			continue
		}
		faults++
		v.failAt = -1
		unmoved()
		same(t, x.text+": the table", got, api.Table{})
		same(t, x.text+": the graph", wholeOf(s), was)
	}
	if faults < 500 {
		t.Errorf("%d faults are too few", faults)
	}
}

// wholeOf: all that a space shows.
func wholeOf(s *space.Space) string {
	var out strings.Builder
	for _, id := range ok(s.Nodes("")) {
		fmt.Fprintln(&out, ok(s.Node(id)), ok(s.Out(id)), ok(s.In(id)))
		for _, e := range ok(s.Out(id)) {
			fmt.Fprintln(&out, ok(s.Edge(e)))
		}
	}
	return out.String()
}

// TestP1301Again: a code that was run is run as if it had not been.
func TestP1301Again(t *testing.T) {
	for seed := range int64(300) {
		x, sound := trialOf(t, seed)
		if !sound {
			continue
		}
		_, s := x.space(t)
		first, code := x.code.Run(s, drawnFuel)
		x.code.Run(s, 7)
		x.code.Run(s, drawnFuel)
		_, s = x.space(t)
		again, twice := x.code.Run(s, drawnFuel)
		same(t, x.text, twice, code)
		same(t, x.text, again, first)
	}
}

// TestP1306Drawn: drawn expressions are worth what the second reckoning says, of a kind that Kinds tells.
func TestP1306Drawn(t *testing.T) {
	vars := []api.Bound{{Name: "a", Kind: api.KNode}, {Name: "b", Kind: api.KNode}, {Name: "e", Kind: api.KEdge}, {Name: "v"}, {Name: "w"}}
	fine := 0
	for seed := range int64(4000) {
		d := newDraw(seed)
		g := d.graph()
		d.vars = vars
		text := d.any(pick(d, 1, 2, 3))
		e := parsedExpr(t, text)
		some := func(of ...api.Val) api.Val { return append(of, null)[d.Intn(len(of)+1)] }
		vals := []api.Val{some(nodeAt(1), nodeAt(2)), some(nodeAt(1), nodeAt(3)), some(edgeAt(1), edgeAt(2)), some(d.val(), nodeAt(1), edgeAt(1)), some(d.val(), d.val())}
		v, s := over(t, g)
		keepsKinds(t, e, vars, vals, s)
		v.log = nil
		got, code := machine.Eval(e, vars, vals, s)
		if code == api.ErrCode {
			continue
		}
		w, u := over(t, g)
		want, fault := bookEval(e, vars, vals, u)
		same(t, text, code, fault)
		same(t, text, got, want)
		same(t, text+": asked", v.log, w.log)
		if code == api.OK {
			fine++
		}
	}
	if fine < 1500 {
		t.Errorf("%d of the drawn expressions have a value: too few", fine)
	}
}

// TestP1308Drawn: the rows with a condition are those without it, less those in which it is not true.
func TestP1308Drawn(t *testing.T) {
	tried := 0
	for seed := range int64(3000) {
		d := newDraw(seed)
		g := d.graph()
		d.bind("a", api.KNode)
		match := "match (a), " + d.soughtNode() + d.soughtHop() + d.soughtNode()
		vars := slices.Clone(d.vars)
		where := d.condition(pick(d, 1, 1, 2))
		var names []string
		for _, v := range vars {
			names = append(names, v.Name)
		}
		gives := " return " + strings.Join(names, ", ")
		e := parsedExpr(t, where)
		all, code := ranOver(t, g, match+gives)
		some, twice := ranOver(t, g, match+" where "+where+gives)
		if code != api.OK || twice != api.OK {
			continue
		}
		_, s := over(t, g)
		var want [][]api.Val
		for _, row := range all {
			if v, code := machine.Eval(e, vars, row, s); code != api.OK {
				t.Errorf("%s: %s: %d", match, where, code)
			} else if v == yes() {
				want = append(want, row)
			}
		}
		same(t, match+" where "+where, shown(some), shown(want))
		if len(want) > 0 && len(want) < len(all) {
			tried++
		}
	}
	if tried < 100 {
		t.Errorf("%d queries whose condition takes some rows are too few", tried)
	}
}

// ranOver: the rows of a query over a graph; ErrCode, if it makes no sense.
func ranOver(t *testing.T, g api.Graph, text string) ([][]api.Val, api.Errno) {
	t.Helper()
	c, code := machine.Compile(parsed(t, text))
	if code != api.OK {
		return nil, code
	}
	_, s := over(t, g)
	out, code := c.Run(s, drawnFuel)
	return out.Rows, code
}

// TestP1309Drawn: order, skip and limit give the same rows, sorted and cut.
func TestP1309Drawn(t *testing.T) {
	for seed := range int64(1500) {
		d := newDraw(seed)
		g := d.graph()
		text := d.match() + " return " + pick(d, "", "distinct ") + d.item(false) + " as p, " + d.item(seed%3 == 0) + " as q, " + d.prop() + " as r"
		all, code := ranOver(t, g, text)
		desc, skip, limit := d.one(2), d.Intn(4), d.Intn(5)
		col := d.Intn(3)
		cut := fmt.Sprintf("%s order by %s%s skip %d limit %d", text, pick(d, fmt.Sprint(col+1), string("pqr"[col])), pick(d, []string{"", " asc"}...), skip, limit)
		if desc {
			cut = fmt.Sprintf("%s order by %d desc skip %d limit %d", text, col+1, skip, limit)
		}
		got, twice := ranOver(t, g, cut)
		same(t, cut, twice, code)
		slices.SortStableFunc(all, func(a, b []api.Val) int {
			if desc {
				return value.Compare(b[col], a[col])
			}
			return value.Compare(a[col], b[col])
		})
		all = all[min(skip, len(all)):]
		same(t, cut, shown(got), shown(all[:min(limit, len(all))]))
	}
}

// TestP1305Printed: the tree of the printed text means the same.
func TestP1305Printed(t *testing.T) {
	for seed := range int64(300) {
		x, sound := trialOf(t, seed)
		if !sound {
			continue
		}
		text, code := syntax.Print(x.q)
		if code != api.OK {
			continue
		}
		_, s := x.space(t)
		_, u := x.space(t)
		same(t, text, told(compiled(t, text).Run(s, drawnFuel)), told(x.code.Run(u, drawnFuel)))
	}
}
