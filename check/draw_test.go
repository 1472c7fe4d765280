package check_test

import (
	"math"
	"math/rand"
	"reflect"
	"strings"

	"trellis/api"
)

// draw: draws queries that have the form, and that mostly make sense: it keeps in mind what is bound. One in so many choices slips; 0: none.
type draw struct {
	*rand.Rand
	slip int
	vars []api.Bound
}

func newDraw(seed int64, slip int) *draw {
	return &draw{Rand: rand.New(rand.NewSource(seed)), slip: slip}
}

func pick[T any](d *draw, of ...T) T { return of[d.Intn(len(of))] }

// some: so many drawn elements, least at least.
func some[T any](d *draw, least, most int, one func() T) []T {
	var out []T
	for range least + d.Intn(most-least+1) {
		out = append(out, one())
	}
	return out
}

func (d *draw) slips() bool { return d.slip > 0 && d.Intn(d.slip) == 0 }

// drawnNames: of three lengths, some of them names of functions.
var drawnNames = []string{"a", "b", "c", "d", "e", "f", "g", "h", "re", "n1", "im", "zz", "x2345678", "coalesce", "abcdefgh"}

func (d *draw) name() string { return pick(d, drawnNames...) }

func (d *draw) kindOf(name string) (int, bool) {
	for _, v := range d.vars {
		if v.Name == name {
			return v.Kind, true
		}
	}
	return 0, false
}

// fresh: a name that is not bound.
func (d *draw) fresh() string {
	if d.slips() {
		return d.name()
	}
	for range 50 {
		n := d.name()
		if _, bound := d.kindOf(n); !bound {
			return n
		}
	}
	return ""
}

// bound: the name of a variable of one of the kinds; empty if there is none.
func (d *draw) bound(kinds ...int) string {
	if d.slips() {
		return d.name()
	}
	var names []string
	for _, v := range d.vars {
		for _, k := range kinds {
			if v.Kind == k {
				names = append(names, v.Name)
			}
		}
	}
	if len(names) == 0 {
		return ""
	}
	return pick(d, names...)
}

func (d *draw) bind(name string, kind int) {
	if _, bound := d.kindOf(name); !bound && name != "" {
		d.vars = append(d.vars, api.Bound{Name: name, Kind: kind})
	}
}

func (d *draw) literal() api.Expr {
	return pick(d, null(), truth(), num(1), num(int64(d.Intn(9)-4)), num(math.MinInt64), num(math.MaxInt64), imag(2), imag(-api.MaxPart), str(""), str("a"), str(strings.Repeat("z", 32)), val(api.Val{Kind: api.KBool}))
}

// Where an expression is drawn: in one without aggregates, or inside of one; or beside some.
const (
	plain  = 0
	beside = 1
)

// leaf: without kids.
func (d *draw) leaf(where int) api.Expr {
	if d.slips() {
		where = beside - where
	}
	if where == beside {
		if d.Intn(2) == 0 {
			return d.literal()
		}
		return pick(d, agg(api.GCount), agg(api.GMax, d.leaf(plain)))
	}
	n := d.bound(0, api.KNode, api.KEdge)
	if n == "" || d.Intn(3) == 0 {
		return d.literal()
	}
	return pick(d, name(n), prop(n, d.name()), prop(n, d.name()))
}

// expr: an expression of that depth at most.
func (d *draw) expr(where, depth int) api.Expr {
	if depth <= 1 || d.Intn(4) == 0 {
		return d.leaf(where)
	}
	kid := func() api.Expr { return d.expr(where, depth-1) }
	switch d.Intn(9) {
	case 0:
		return un(pick(d, api.UNeg, api.UNot), kid())
	case 1, 2, 3:
		return bin(pick(d, api.BAdd, api.BSub, api.BMul, api.BDiv, api.BMod, api.BEq, api.BNe, api.BLt, api.BLe, api.BGt, api.BGe, api.BAnd, api.BOr, api.BXor, api.BStar, api.BEnds, api.BHas), kid(), kid())
	case 4:
		return isNull(1+d.Intn(2), kid())
	case 5:
		return in(some(d, 1, 4, kid)...)
	case 6:
		kids := []api.Expr{kid()}
		for range 1 + d.Intn(4) {
			kids = append(kids, kid(), kid())
		}
		return cases(kids...)
	case 7:
		if where == beside || d.slips() {
			e := agg(1+d.Intn(5), d.expr(plain, depth-1))
			e.Once = d.Intn(2) == 0
			return e
		}
	}
	return d.called(where, kid)
}

// thing: an expression that may be a node (or an edge): mostly a variable.
func (d *draw) thing(where, kind int, kid func() api.Expr) api.Expr {
	if n := d.bound(kind, 0); n != "" && where == plain && d.Intn(4) > 0 {
		return name(n)
	}
	return kid()
}

// called: a function of kids.
func (d *draw) called(where int, kid func() api.Expr) api.Expr {
	node := func() api.Expr { return d.thing(where, api.KNode, kid) }
	switch d.Intn(7) {
	case 0:
		return call(pick(d, api.FRe, api.FIm, api.FConj, api.FNorm, api.FLen, api.FAbs), kid())
	case 1:
		return call(api.FCpx, kid(), kid())
	case 2:
		return call(api.FCoalesce, some(d, 1, 4, kid)...)
	case 3:
		return call(pick(d, api.FLabel, api.FDeg), node())
	case 4:
		return call(api.FType, d.thing(where, api.KEdge, kid))
	case 5:
		return call(api.FHops, node(), node())
	}
	return call(api.FDist, node(), node())
}

// known: an expression that mostly has some kinds.
func (d *draw) known(depth int) api.Expr {
	for range 20 {
		e := d.expr(plain, depth)
		if got, code := bookKinds(e, d.vars); code != api.OK || got != 0 || d.slips() {
			return e
		}
	}
	return num(1)
}

// where: none, or one that is mostly a condition.
func (d *draw) where() []api.Expr {
	if d.Intn(2) == 0 {
		return nil
	}
	e := d.known(3)
	if got, _ := bookKinds(e, d.vars); got&3 == 0 && !d.slips() {
		e = isNull(1, e)
	}
	return []api.Expr{e}
}

func (d *draw) props() []api.Pair {
	if d.Intn(3) > 0 {
		return nil
	}
	met := map[string]bool{}
	var out []api.Pair
	for range 1 + d.Intn(3) {
		key := pick(d, "k", "j", "l", "m")
		if !met[key] || d.slips() {
			out = append(out, api.Pair{Key: key, Val: d.known(2)})
		}
		met[key] = true
	}
	return out
}

// patternName: one that is bound as that kind, a new one, or none.
func (d *draw) patternName(kind int) string {
	n := pick(d, "", d.bound(kind), d.fresh(), d.fresh())
	return n
}

func (d *draw) soughtNode() api.NodePat {
	n := api.NodePat{Props: d.props(), Var: d.patternName(api.KNode), Label: pick(d, "", "x", "y")}
	d.bind(n.Var, api.KNode)
	return n
}

func (d *draw) soughtHop() api.HopPat {
	h := api.HopPat{Props: d.props(), Type: pick(d, "", "t"), Dir: 1 + d.Intn(3), Min: 1, Max: 1}
	if d.Intn(4) == 0 {
		h.Star, h.Max = true, 1+d.Intn(5)
	}
	if !h.Star || d.slips() {
		h.Var = d.patternName(api.KEdge)
		d.bind(h.Var, api.KEdge)
	}
	h.To = d.soughtNode()
	return h
}

func (d *draw) soughtPath() api.Path {
	return api.Path{From: d.soughtNode(), Hops: some(d, 0, 2, d.soughtHop)}
}

func (d *draw) match() api.Match {
	m := api.Match{Optional: d.Intn(2) == 0, Paths: some(d, 1, 2, d.soughtPath)}
	m.Where = d.where()
	return m
}

func (d *draw) madeNode() api.NodePat {
	if n := d.bound(api.KNode); n != "" && d.Intn(2) == 0 && !d.slips() {
		return api.NodePat{Var: n}
	}
	n := api.NodePat{Props: d.props(), Var: pick(d, "", d.fresh()), Label: "x"}
	if d.slips() {
		n.Label = ""
	}
	d.bind(n.Var, api.KNode)
	return n
}

func (d *draw) madeHop() api.HopPat {
	h := api.HopPat{Type: "t", Dir: 1 + d.Intn(2), Min: 1, Max: 1, To: d.madeNode()}
	h.Props, h.Var = d.props(), pick(d, "", d.fresh())
	switch {
	case d.slips():
		h.Dir = api.DBoth
	case d.slips():
		h.Type = ""
	case d.slips():
		h.Star = true
	}
	d.bind(h.Var, api.KEdge)
	return h
}

func (d *draw) action() api.Action {
	thing := d.bound(api.KNode, api.KEdge)
	if thing == "" {
		thing = d.name()
	}
	switch d.Intn(6) {
	case 0:
		return api.Action{Kind: api.ACreate, Path: api.Path{From: d.madeNode(), Hops: some(d, 0, 2, d.madeHop)}}
	case 1:
		n := api.NodePat{Props: d.props(), Var: pick(d, "", d.fresh()), Label: "x"}
		if d.slips() {
			n.Label = ""
		}
		d.bind(n.Var, api.KNode)
		return api.Action{Kind: api.AMerge, Path: api.Path{From: n}}
	case 2:
		return api.Action{Kind: api.ASet, Var: thing, Key: "k", Val: []api.Expr{d.known(3)}}
	case 3:
		return api.Action{Kind: api.ARemove, Var: thing, Key: "k"}
	case 4:
		return api.Action{Kind: api.ADelete, Var: thing, Detach: d.Intn(2) == 0}
	}
	return api.Action{Kind: api.AAbort}
}

// item: behind with each needs a name.
func (d *draw) item(last bool, as string) api.Item {
	e := d.known(3)
	if d.Intn(3) == 0 {
		e = d.expr(beside, 3)
	}
	if n := d.bound(0, api.KNode, api.KEdge); n != "" && d.Intn(2) == 0 {
		e = name(n)
	}
	if (e.Op == api.EVar || last) && d.Intn(2) == 0 {
		as = ""
	}
	return api.Item{Expr: e, As: as}
}

// given: the items, the keys, and the scope that they leave.
func (d *draw) given(p api.Part, last bool) api.Part {
	p.Gives = true
	var next []api.Bound
	for n := range 1 + d.Intn(3) {
		as := drawnNames[(n*4+d.Intn(4))%len(drawnNames)]
		i := d.item(last, as)
		p.Items = append(p.Items, i)
		kind := 0
		if i.Expr.Op == api.EVar {
			kind, _ = d.kindOf(i.Expr.Name)
			as = i.Expr.Name
		}
		if i.As != "" {
			as = i.As
		}
		next = append(next, api.Bound{Name: as, Kind: kind})
	}
	for range pick(d, 0, 0, 1, 2) {
		k := api.OrderKey{Col: 1 + d.Intn(len(p.Items)), Desc: d.Intn(2) == 0}
		if i := p.Items[d.Intn(len(p.Items))]; i.As != "" && d.Intn(2) == 0 {
			k.Col, k.Name = 0, i.As
		}
		if d.slips() {
			k = pick(d, api.OrderKey{Name: d.name()}, api.OrderKey{Col: 1 + d.Intn(12)})
		}
		p.Order = append(p.Order, k)
	}
	p.Once, p.Skip, p.Limit = d.Intn(3) == 0, pick(d, -1, 0, 7), pick(d, -1, 0, 7)
	if !last {
		d.vars = next
		p.Where = d.where()
	}
	return p
}

func (d *draw) part(last bool) api.Part {
	p := part(some(d, 0, 2, d.match))
	p.Actions = some(d, 0, pick(d, 0, 3), d.action)
	if last && len(p.Actions) > 0 && d.Intn(2) == 0 {
		return p
	}
	return d.given(p, last)
}

func (d *draw) query() api.Query {
	d.vars = nil
	var q api.Query
	for range pick(d, 0, 0, 1, 1, 2, 3) {
		q.Parts = append(q.Parts, d.part(false))
	}
	q.Parts = append(q.Parts, d.part(true))
	return q
}

// spoil: changes one field, or one list, somewhere in what the pointer points to.
func (d *draw) spoil(tree any) {
	var places []reflect.Value
	var walk func(v reflect.Value)
	walk = func(v reflect.Value) {
		switch v.Kind() {
		case reflect.Struct:
			for i := range v.NumField() {
				walk(v.Field(i))
			}
			return
		case reflect.Slice:
			for i := range v.Len() {
				walk(v.Index(i))
			}
		}
		places = append(places, v)
	}
	walk(reflect.ValueOf(tree).Elem())
	d.change(places[d.Intn(len(places))])
}

func (d *draw) change(v reflect.Value) {
	switch v.Kind() {
	case reflect.Int, reflect.Int64:
		v.SetInt(pick(d, v.Int()+1, v.Int()-1, int64(d.Intn(12)), int64(d.Intn(12)), -1, 0, math.MaxInt64, math.MinInt64))
	case reflect.String:
		v.SetString(pick(d, d.name(), d.name(), d.name(), "", "k", "match", "A", "abcdefghi"))
	case reflect.Bool:
		v.SetBool(!v.Bool())
	case reflect.Slice:
		d.changeList(v)
	}
}

// changeList: one less, or one more (the first again, or a zero one). The elements are copied, so that no list of another tree changes.
func (d *draw) changeList(v reflect.Value) {
	list := reflect.AppendSlice(reflect.MakeSlice(v.Type(), 0, v.Len()+1), v)
	one := reflect.Zero(v.Type().Elem())
	if v.Len() > 0 && d.Intn(3) > 0 {
		one = v.Index(0)
	}
	if v.Len() > 0 && d.Intn(2) == 0 {
		list = list.Slice(0, v.Len()-1)
	} else {
		list = reflect.Append(list, one)
	}
	v.Set(list)
}
