package machine_test

import (
	"slices"

	"trellis/api"
	"trellis/paths"
	"trellis/space"
	"trellis/syntax"
	"trellis/value"
)

// A second reckoning of the whole, by the chapter's words, over the trees as they are: rows are maps by name that are copied at each binding, an error is a panic with its number, aggregates are put into the tree as literals.

type env map[string]api.Val

func (x env) with(name string, v api.Val) env {
	if name == "" {
		return x
	}
	out := env{name: v}
	for n, w := range x {
		if n != name {
			out[n] = w
		}
	}
	return out
}

type book struct {
	s               *space.Space
	left, spent     int
	made, gone, set int
}

func (b *book) ask() {
	if b.left == 0 {
		panic(api.ErrFuel)
	}
	b.left--
	b.spent++
}

func ok[T any](v T, code api.Errno) T {
	if code != api.OK {
		panic(code)
	}
	return v
}

func must(is bool, code api.Errno) {
	if !is {
		panic(code)
	}
}

func (b *book) node(id int64) api.Node { b.ask(); return ok(b.s.Node(id)) }
func (b *book) edge(id int64) api.Edge { b.ask(); return ok(b.s.Edge(id)) }
func (b *book) out(id int64) []int64   { b.ask(); return ok(b.s.Out(id)) }
func (b *book) in(id int64) []int64    { b.ask(); return ok(b.s.In(id)) }

func has(list []api.Prop, key string) (api.Val, bool) {
	for _, p := range list {
		if p.Key == key {
			return p.Val, true
		}
	}
	return null, false
}

func boolVal(is bool) api.Val {
	if is {
		return yes()
	}
	return no()
}

// isMet: what a condition says.
func isMet(v api.Val) bool {
	must(v.Kind == api.KNull || v.Kind == api.KBool, api.ErrKind)
	return v == yes()
}

func (b *book) eval(e api.Expr, x env) api.Val {
	switch e.Op {
	case api.ECase:
		for i := 0; i+1 < len(e.Kids); i += 2 {
			if isMet(b.eval(e.Kids[i], x)) {
				return b.eval(e.Kids[i+1], x)
			}
		}
		return b.eval(e.Kids[len(e.Kids)-1], x)
	case api.ELit:
		return e.Val
	case api.EVar:
		return x[e.Name]
	case api.EProp:
		return b.prop(x[e.Name], e.Key)
	}
	if e.Op == api.ECall && e.Sub == api.FCoalesce {
		for _, kid := range e.Kids {
			if v := b.eval(kid, x); v.Kind != api.KNull {
				return v
			}
		}
		return null
	}
	var v []api.Val
	for _, kid := range e.Kids {
		v = append(v, b.eval(kid, x))
	}
	switch e.Op {
	case api.EUn:
		return ok(value.Unary(e.Sub, v[0]))
	case api.EBin:
		return ok(value.Binary(e.Sub, v[0], v[1]))
	case api.ENull:
		return boolVal((v[0].Kind == api.KNull) == (e.Sub == 1))
	case api.EIn:
		return bookIn(v[0], v[1:])
	}
	return b.call(e, v)
}

func bookIn(x api.Val, list []api.Val) api.Val {
	var same []api.Val
	for _, y := range list {
		same = append(same, ok(value.Binary(api.BEq, x, y)))
	}
	if slices.Contains(same, yes()) {
		return yes()
	}
	if slices.Contains(same, null) {
		return null
	}
	return no()
}

func (b *book) prop(of api.Val, key string) api.Val {
	switch of.Kind {
	case api.KNull:
		return null
	case api.KNode:
		v, _ := has(b.node(of.A).Props, key)
		return v
	case api.KEdge:
		v, _ := has(b.edge(of.A).Props, key)
		return v
	}
	panic(api.ErrKind)
}

func (b *book) call(e api.Expr, v []api.Val) api.Val {
	for sub, op := range map[int]int{api.FRe: api.URe, api.FIm: api.UIm, api.FConj: api.UConj, api.FNorm: api.UNorm, api.FLen: api.ULen, api.FAbs: api.UAbs} {
		if e.Sub == sub {
			return ok(value.Unary(op, v[0]))
		}
	}
	switch e.Sub {
	case api.FCpx:
		return ok(value.Binary(api.BCpx, v[0], v[1]))
	case api.FDist, api.FHops:
		return b.far(e, v[0], v[1])
	}
	if v[0].Kind == api.KNull {
		return null
	}
	must((v[0].Kind == api.KEdge) == (e.Sub == api.FType) && v[0].Kind >= api.KNode, api.ErrKind)
	switch e.Sub {
	case api.FLabel:
		return str(b.node(v[0].A).Label)
	case api.FType:
		return str(b.edge(v[0].A).Type)
	}
	edges := b.out(v[0].A) // FDeg
	n := len(edges)
	if e.Name != "" {
		n = 0
		for _, at := range edges {
			if b.edge(at).Type == e.Name {
				n++
			}
		}
	}
	return num(int64(n))
}

func (b *book) far(e api.Expr, from, to api.Val) api.Val {
	for _, v := range []api.Val{from, to} {
		must(v.Kind == api.KNode || v.Kind == api.KNull, api.ErrKind)
	}
	if from.Kind == api.KNull || to.Kind == api.KNull {
		return null
	}
	arcs := func(id int64) ([]api.Arc, api.Errno) {
		var list []api.Arc
		for _, at := range b.out(id) {
			edge := b.edge(at)
			w, weighs := has(edge.Props, e.Key)
			switch {
			case e.Sub == api.FHops && (e.Name == "" || e.Name == edge.Type):
				list = append(list, api.Arc{Edge: at, To: edge.To})
			case e.Sub == api.FDist && e.Name == edge.Type && weighs:
				must(w.Kind == api.KInt, api.ErrKind)
				list = append(list, api.Arc{Edge: at, To: edge.To, Weight: w.A})
			}
		}
		return list, api.OK
	}
	if e.Sub == api.FHops {
		n, there, code := paths.Hops(arcs, from.A, to.A)
		must(code == api.OK, code)
		if !there {
			return null
		}
		return num(int64(n))
	}
	way, there, code := paths.Least(arcs, from.A, to.A)
	must(code == api.OK, code)
	if !there {
		return null
	}
	return num(way.Sum)
}

// pairs: the values of the pairs, in order.
func (b *book) pairs(of []api.Pair, x env) (out []api.Prop) {
	for _, p := range of {
		out = append(out, api.Prop{Key: p.Key, Val: b.eval(p.Val, x)})
	}
	return out
}

func hasAll(list, wanted []api.Prop) bool {
	for _, p := range wanted {
		if v, there := has(list, p.Key); !there || v != p.Val {
			return false
		}
	}
	return true
}

// place: something of a match that is come to: a node at the beginning of a path, a hop, or the node behind one.
type place struct {
	first bool
	hop   *api.HopPat
	node  *api.NodePat
}

func placesOf(m api.Match) (out []place) {
	for i := range m.Paths {
		p := &m.Paths[i]
		out = append(out, place{first: true, node: &p.From})
		for j := range p.Hops {
			out = append(out, place{hop: &p.Hops[j]}, place{node: &p.Hops[j].To})
		}
	}
	return out
}

// seek: from the node at, with these edges used, on to the rest; found is told each solution.
func (b *book) seek(rest []place, at int64, used []int64, x env, found func(env)) {
	if len(rest) == 0 {
		found(x)
		return
	}
	p := rest[0]
	if p.hop != nil {
		wanted := b.pairs(p.hop.Props, x)
		if p.hop.Star {
			b.wander(rest, wanted, 0, at, used, x, found)
		} else {
			b.follow(p.hop, wanted, at, used, x, func(to int64, used []int64, x env) { b.seek(rest[1:], to, used, x, found) })
		}
		return
	}
	wanted := b.pairs(p.node.Props, x)
	old, bound := x[p.node.Var]
	ids := []int64{at}
	switch {
	case bound && old.Kind == api.KNull:
		return
	case bound && !p.first && old != nodeAt(at):
		return
	case bound && p.first:
		ids = []int64{old.A}
	case p.first:
		ids = b.candidates(p.node.Label, wanted)
	}
	for _, id := range ids {
		n := b.node(id)
		if (p.node.Label == "" || p.node.Label == n.Label) && hasAll(n.Props, wanted) {
			b.seek(rest[1:], id, used, x.with(p.node.Var, nodeAt(id)), found)
		}
	}
}

func (b *book) candidates(label string, wanted []api.Prop) []int64 {
	b.ask()
	if label != "" && len(wanted) > 0 {
		return ok(b.s.Find(label, wanted[0].Key, wanted[0].Val))
	}
	return ok(b.s.Nodes(label))
}

// follow: along each edge of the node that fits.
func (b *book) follow(h *api.HopPat, wanted []api.Prop, at int64, used []int64, x env, then func(to int64, used []int64, x env)) {
	var outs, ins []int64
	if h.Dir == api.DOut || h.Dir == api.DBoth {
		outs = b.out(at)
	}
	if h.Dir == api.DIn || h.Dir == api.DBoth {
		ins = b.in(at)
	}
	along := func(id int64, back bool) {
		if v, bound := x[h.Var]; slices.Contains(used, id) || bound && v != edgeAt(id) {
			return
		}
		e := b.edge(id)
		if (h.Type != "" && h.Type != e.Type) || !hasAll(e.Props, wanted) {
			return
		}
		to := e.To
		if back {
			to = e.From
		}
		then(to, append(slices.Clone(used), id), x.with(h.Var, edgeAt(id)))
	}
	for _, id := range outs {
		along(id, false)
	}
	for _, id := range ins {
		if !slices.Contains(outs, id) {
			along(id, true)
		}
	}
}

// wander: a star's way of n edges has come to the node at.
func (b *book) wander(rest []place, wanted []api.Prop, n int, at int64, used []int64, x env, found func(env)) {
	h := rest[0].hop
	if n >= h.Min {
		b.seek(rest[1:], at, used, x, found)
	}
	if n < h.Max {
		b.follow(h, wanted, at, used, x, func(to int64, used []int64, x env) { b.wander(rest, wanted, n+1, to, used, x, found) })
	}
}

func (b *book) match(m api.Match, rows []env) (out []env) {
	add := func(x env) {
		must(len(out) < api.MaxRows, api.ErrRows)
		out = append(out, x)
	}
	for _, x := range rows {
		before := len(out)
		b.seek(placesOf(m), 0, nil, x, func(y env) {
			if len(m.Where) == 0 || isMet(b.eval(m.Where[0], y)) {
				add(y)
			}
		})
		if m.Optional && len(out) == before {
			for _, p := range placesOf(m) {
				name := ""
				if p.hop != nil {
					name = p.hop.Var
				} else {
					name = p.node.Var
				}
				if _, bound := x[name]; !bound {
					x = x.with(name, null)
				}
			}
			add(x)
		}
	}
	return out
}

// tidy: what is made has these: without nulls, keys rising.
func tidy(list []api.Prop) (out []api.Prop) {
	for _, p := range list {
		if p.Val.Kind == api.KNull {
			continue
		}
		at := 0
		for at < len(out) && out[at].Key < p.Key {
			at++
		}
		out = slices.Insert(out, at, p)
	}
	return out
}

func (b *book) makeNode(n api.NodePat, x env) (int64, env) {
	if v, bound := x[n.Var]; bound {
		must(v.Kind == api.KNode, api.ErrKind)
		return v.A, x
	}
	list := tidy(b.pairs(n.Props, x))
	b.ask()
	id := ok(b.s.AddNode(n.Label, list))
	b.made++
	return id, x.with(n.Var, nodeAt(id))
}

func (b *book) create(p api.Path, x env) env {
	at, x := b.makeNode(p.From, x)
	for _, h := range p.Hops {
		to, y := b.makeNode(h.To, x)
		list := tidy(b.pairs(h.Props, y))
		ends := []int64{at, to}
		if h.Dir == api.DIn {
			ends = []int64{to, at}
		}
		b.ask()
		id := ok(b.s.AddEdge(h.Type, ends[0], ends[1], list))
		b.made++
		at, x = to, y.with(h.Var, edgeAt(id))
	}
	return x
}

func (b *book) merge(n api.NodePat, x env) env {
	wanted := b.pairs(n.Props, x)
	for _, p := range wanted {
		must(value.Storable(p.Val), api.ErrProps)
	}
	for _, id := range b.candidates(n.Label, wanted) {
		if hasAll(b.node(id).Props, wanted) {
			return x.with(n.Var, nodeAt(id))
		}
	}
	b.ask()
	id := ok(b.s.AddNode(n.Label, tidy(wanted)))
	b.made++
	return x.with(n.Var, nodeAt(id))
}

func (b *book) act(a api.Action, x env) env {
	of := x[a.Var]
	switch a.Kind {
	case api.ACreate:
		return b.create(a.Path, x)
	case api.AMerge:
		return b.merge(a.Path.From, x)
	case api.AAbort:
		panic(api.ErrAborted)
	}
	if of.Kind == api.KNull {
		return x
	}
	if a.Kind == api.ADelete {
		b.delete(of, a.Detach)
		return x
	}
	v := null
	if a.Kind == api.ASet {
		v = b.eval(a.Val[0], x)
	}
	b.ask()
	if of.Kind == api.KNode {
		ok(0, b.s.SetNode(of.A, a.Key, v))
	} else {
		ok(0, b.s.SetEdge(of.A, a.Key, v))
	}
	b.set++
	return x
}

func (b *book) delete(of api.Val, detach bool) {
	b.ask()
	var n int
	var code api.Errno
	if of.Kind == api.KNode {
		n, code = b.s.DelNode(of.A, detach)
	} else {
		code = b.s.DelEdge(of.A)
	}
	if code == api.ErrGone {
		return
	}
	must(code == api.OK, code)
	b.gone += 1 + n
}

// aggregatesOf: those of the expression, from left to right.
func aggregatesOf(e api.Expr) (out []api.Expr) {
	if e.Op == api.EAgg {
		return []api.Expr{e}
	}
	for _, kid := range e.Kids {
		out = append(out, aggregatesOf(kid)...)
	}
	return out
}

// filled: the expression with literals in the places of its aggregates.
func filled(e api.Expr, vals *[]api.Val) api.Expr {
	if e.Op == api.EAgg {
		v := (*vals)[0]
		*vals = (*vals)[1:]
		return api.Expr{Op: api.ELit, Val: v}
	}
	var kids []api.Expr
	for _, kid := range e.Kids {
		kids = append(kids, filled(kid, vals))
	}
	e.Kids = kids
	return e
}

// bookGroup: its keys, by item, and of each row what the aggregates take, by item.
type bookGroup struct {
	keys map[int]api.Val
	rows []map[int][]api.Val
}

func (b *book) grouped(items []api.Item, rows []env) (out [][]api.Val) {
	var groups []*bookGroup
	keyed := false
	for _, it := range items {
		keyed = keyed || len(aggregatesOf(it.Expr)) == 0
	}
	if !keyed {
		groups = []*bookGroup{{}}
	}
	for _, x := range rows {
		keys := map[int]api.Val{}
		for i, it := range items {
			if len(aggregatesOf(it.Expr)) == 0 {
				keys[i] = b.eval(it.Expr, x)
			}
		}
		takes := map[int][]api.Val{}
		for i, it := range items {
			for _, agg := range aggregatesOf(it.Expr) {
				v := null
				if len(agg.Kids) > 0 {
					v = b.eval(agg.Kids[0], x)
				}
				takes[i] = append(takes[i], v)
			}
		}
		at := slices.IndexFunc(groups, func(g *bookGroup) bool { return sameKeys(g.keys, keys) })
		if at < 0 {
			at = len(groups)
			groups = append(groups, &bookGroup{keys: keys})
		}
		groups[at].rows = append(groups[at].rows, takes)
	}
	for _, g := range groups {
		out = append(out, b.columnsOf(items, g))
	}
	return out
}

func sameKeys(a, b map[int]api.Val) bool {
	for i, v := range b {
		if a[i] != v {
			return false
		}
	}
	return true
}

func (b *book) columnsOf(items []api.Item, g *bookGroup) (cols []api.Val) {
	for i, it := range items {
		aggs := aggregatesOf(it.Expr)
		if len(aggs) == 0 {
			cols = append(cols, g.keys[i])
			continue
		}
		var vals []api.Val
		for n, agg := range aggs {
			var list []api.Val
			for _, takes := range g.rows {
				if !agg.Once || !slices.Contains(list, takes[i][n]) {
					list = append(list, takes[i][n])
				}
			}
			if len(agg.Kids) == 0 {
				vals = append(vals, num(int64(len(g.rows))))
			} else {
				vals = append(vals, ok(value.Fold(agg.Sub, list)))
			}
		}
		cols = append(cols, b.eval(filled(it.Expr, &vals), nil))
	}
	return cols
}

// give: what a part gives, and the names of its columns.
func (b *book) give(p api.Part, rows []env) (cols [][]api.Val, names []string) {
	grouped := false
	for _, it := range p.Items {
		grouped = grouped || len(aggregatesOf(it.Expr)) > 0
		name := it.As
		if name == "" {
			name = ok(syntax.PrintExpr(it.Expr))
		}
		names = append(names, name)
	}
	if grouped {
		cols = b.grouped(p.Items, rows)
	} else {
		for _, x := range rows {
			var one []api.Val
			for _, it := range p.Items {
				one = append(one, b.eval(it.Expr, x))
			}
			cols = append(cols, one)
		}
	}
	if p.Once {
		var kept [][]api.Val
		for _, c := range cols {
			if !slices.ContainsFunc(kept, func(d []api.Val) bool { return slices.Equal(c, d) }) {
				kept = append(kept, c)
			}
		}
		cols = kept
	}
	return bookCut(bookSorted(cols, p.Order, names), p.Skip, p.Limit), names
}

// bookSorted: each row is laid behind all that do not stand behind it.
func bookSorted(cols [][]api.Val, order []api.OrderKey, names []string) (out [][]api.Val) {
	behind := func(a, b []api.Val) bool {
		for _, k := range order {
			col := k.Col - 1
			if k.Name != "" {
				col = slices.Index(names, k.Name)
			}
			if c := value.Compare(a[col], b[col]); c != 0 {
				return (c > 0) != k.Desc
			}
		}
		return false
	}
	for _, c := range cols {
		at := len(out)
		for at > 0 && behind(out[at-1], c) {
			at--
		}
		out = slices.Insert(out, at, c)
	}
	return out
}

func bookCut(cols [][]api.Val, skip, limit int) (out [][]api.Val) {
	for i, c := range cols {
		if i >= skip && (limit < 0 || i-max(skip, 0) < limit) {
			out = append(out, c)
		}
	}
	return out
}

func (b *book) part(p api.Part, rows []env) ([][]api.Val, []string) {
	for _, m := range p.Match {
		rows = b.match(m, rows)
	}
	for _, a := range p.Actions {
		for i, x := range rows {
			rows[i] = b.act(a, x)
		}
	}
	if !p.Gives {
		return nil, nil
	}
	return b.give(p, rows)
}

// bookRun: what a run of the query must answer, and how much it asks.
func bookRun(q api.Query, s *space.Space, fuel int) (out api.Table, spent int, code api.Errno) {
	b := &book{s: s, left: fuel}
	mark := s.Mark()
	defer func() {
		if why := recover(); why != nil {
			s.Undo(mark)
			out, spent, code = api.Table{}, b.spent, why.(api.Errno)
		}
	}()
	rows := []env{{}}
	for i, p := range q.Parts {
		out.Rows, out.Cols = b.part(p, rows)
		if i == len(q.Parts)-1 {
			break
		}
		rows = nil
		for _, c := range out.Rows {
			x := env{}
			for n, name := range out.Cols {
				x[name] = c[n]
			}
			if len(p.Where) == 0 || isMet(b.eval(p.Where[0], x)) {
				rows = append(rows, x)
			}
		}
	}
	out.Made, out.Gone, out.Set = b.made, b.gone, b.set
	return out, b.spent, api.OK
}

// bookEval: what the expression must be worth.
func bookEval(e api.Expr, vars []api.Bound, vals []api.Val, s *space.Space) (out api.Val, code api.Errno) {
	defer func() {
		if why := recover(); why != nil {
			out, code = null, why.(api.Errno)
		}
	}()
	x := env{}
	for i, v := range vars {
		x[v.Name] = vals[i]
	}
	return (&book{s: s, left: api.MaxFuel}).eval(e, x), api.OK
}
