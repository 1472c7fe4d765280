package machine_test

import (
	"fmt"
	"math/rand"
	"slices"
	"strings"

	"trellis/api"
	"trellis/space"
)

// draw: draws graphs, changes, and texts of queries that mostly make sense: it keeps in mind what is bound.
type draw struct {
	*rand.Rand
	vars []api.Bound
}

func newDraw(seed int64) *draw { return &draw{Rand: rand.New(rand.NewSource(seed))} }

func pick[T any](d *draw, of ...T) T { return of[d.Intn(len(of))] }

// one: once in so many times.
func (d *draw) one(in int) bool { return d.Intn(in) == 0 }

// joined: so many drawn texts, least at least.
func (d *draw) joined(least, most int, between string, one func() string) string {
	var out []string
	for range least + d.Intn(most-least+1) {
		out = append(out, one())
	}
	return strings.Join(out, between)
}

func (d *draw) val() api.Val {
	return pick(d, num(0), num(1), num(1), num(2), num(2), num(3), cpx(1, 0), cpx(0, 1), str("a"), str("b"), str("ab"), yes(), no())
}

// someProps: of a node or an edge; w is mostly a weight.
func (d *draw) someProps() (out []api.Prop) {
	for _, key := range []string{"j", "k"} {
		if d.Intn(5) < 3 {
			out = append(out, api.Prop{Key: key, Val: d.val()})
		}
	}
	if d.Intn(3) > 0 {
		v := num(int64(d.Intn(4)))
		if d.one(12) {
			v = pick(d, num(-1), num(api.MaxFar), d.val())
		}
		out = append(out, api.Prop{Key: "w", Val: v})
	}
	return out
}

func (d *draw) graph() (g api.Graph) {
	id := int64(0)
	for range d.Intn(6) + 2 {
		id += pick(d, int64(1), 1, 1, 3)
		g.Nodes = append(g.Nodes, api.Node{Id: id, Label: pick(d, "x", "x", "y", "z"), Props: d.someProps()})
	}
	end := func() int64 { return g.Nodes[d.Intn(len(g.Nodes))].Id }
	id = 0
	for range d.Intn(9) + 2 {
		id += pick(d, int64(1), 1, 1, 3)
		g.Edges = append(g.Edges, api.Edge{Id: id, Type: pick(d, "t", "t", "u"), From: end(), To: end(), Props: d.someProps()})
	}
	return g
}

// change: some changes of the space, so that it has nodes and edges of its own, and some that are gone.
func (d *draw) change(s *space.Space) {
	id := func() int64 { return int64(d.Intn(9)) - 2 }
	for range pick(d, 0, 0, 3, 8) {
		switch d.Intn(6) {
		case 0, 1:
			s.AddNode(pick(d, "x", "y"), d.someProps())
		case 2:
			s.AddEdge(pick(d, "t", "u"), id(), id(), d.someProps())
		case 3:
			s.SetNode(id(), "k", d.val())
		case 4:
			s.SetEdge(id(), "w", num(int64(d.Intn(5))))
		case 5:
			if d.one(2) {
				s.DelEdge(id())
			} else {
				s.DelNode(id(), true)
			}
		}
	}
}

// bound: a variable of that kind; empty, if there is none.
func (d *draw) bound(kinds ...int) string {
	var names []string
	for _, v := range d.vars {
		if slices.Contains(kinds, v.Kind) {
			names = append(names, v.Name)
		}
	}
	if len(names) == 0 {
		return ""
	}
	return pick(d, names...)
}

// fresh: a name of the kind's letters that is not bound, or, if all are, none.
func (d *draw) fresh(letters string) string {
	at := d.Intn(len(letters))
	for i := range letters {
		name := string(letters[(at+i)%len(letters)])
		if !slices.ContainsFunc(d.vars, func(v api.Bound) bool { return v.Name == name }) {
			return name
		}
	}
	return ""
}

func (d *draw) bind(name string, kind int) {
	if name != "" && !slices.ContainsFunc(d.vars, func(v api.Bound) bool { return v.Name == name }) {
		d.vars = append(d.vars, api.Bound{Name: name, Kind: kind})
	}
}

func (d *draw) node() string {
	if n := d.bound(api.KNode); n != "" && !d.one(8) {
		return n
	}
	if n := d.bound(0); n != "" {
		return n
	}
	return "null"
}

func (d *draw) edge() string {
	if n := d.bound(api.KEdge); n != "" && !d.one(8) {
		return n
	}
	if n := d.bound(0); n != "" {
		return n
	}
	return "null"
}

func (d *draw) prop() string {
	if n := d.bound(0, api.KNode, api.KEdge, api.KNode, api.KEdge); n != "" {
		return n + "." + pick(d, "j", "k", "k", "w", "w")
	}
	return pick(d, "1", "2", "null")
}

// number: an expression that is mostly a number; depth: how far it may still go on.
func (d *draw) number(depth int) string {
	if depth == 0 {
		return pick(d, "0", "1", "2", "-1", "1i", d.prop(), d.prop(), d.prop())
	}
	x := func() string { return d.number(depth - 1) }
	switch d.Intn(14) {
	case 0, 1, 2:
		return "(" + x() + pick(d, " + ", " - ", " * ", " / ", " % ") + x() + ")"
	case 3:
		return "(-" + x() + ")"
	case 4:
		return pick(d, "re", "im", "conj", "norm", "abs") + "(" + x() + ")"
	case 5:
		return "cpx(" + x() + ", " + x() + ")"
	case 6:
		return "len(" + d.text(depth-1) + ")"
	case 7:
		return "deg(" + d.node() + pick(d, "", ", t", ", u") + ")"
	case 8:
		return "hops(" + d.node() + ", " + d.node() + pick(d, "", ", t", ", u") + ")"
	case 9:
		return "dist(" + d.node() + ", " + d.node() + ", t, w)"
	case 10:
		return "coalesce(" + d.joined(1, 3, ", ", x) + ")"
	case 11:
		return "case when " + d.condition(depth-1) + " then " + x() + pick(d, "", " when "+d.condition(depth-1)+" then "+x()) + pick(d, "", " else "+x()) + " end"
	}
	return d.prop()
}

func (d *draw) text(depth int) string {
	if depth > 0 && d.one(3) {
		return "(" + d.text(depth-1) + " + " + d.text(depth-1) + ")"
	}
	return pick(d, "'a'", "'ab'", "''", "label("+d.node()+")", "type("+d.edge()+")", d.prop())
}

func (d *draw) condition(depth int) string {
	if depth == 0 {
		return pick(d, "true", "false", "null", "("+d.prop()+" = "+d.prop()+")", "("+d.prop()+" is not null)", "("+d.node()+" = "+d.node()+")")
	}
	x := func() string { return d.condition(depth - 1) }
	switch d.Intn(10) {
	case 0, 1:
		return "(" + x() + pick(d, " and ", " or ", " xor ") + x() + ")"
	case 2:
		return "(not " + x() + ")"
	case 3, 4:
		return "(" + d.number(depth-1) + pick(d, " = ", " <> ", " < ", " <= ", " > ", " >= ") + d.number(depth-1) + ")"
	case 5:
		return "(" + d.any(depth-1) + pick(d, " is null", " is not null") + ")"
	case 6:
		return "(" + d.any(depth-1) + " in [" + d.joined(0, 3, ", ", func() string { return d.any(depth - 1) }) + "])"
	case 7:
		return "(" + d.text(depth-1) + pick(d, " starts with ", " ends with ", " contains ", " = ") + d.text(depth-1) + ")"
	case 8:
		return "(" + d.edge() + " = " + d.edge() + ")"
	}
	return d.condition(0)
}

func (d *draw) any(depth int) string {
	switch d.Intn(7) {
	case 0:
		return d.condition(depth)
	case 1:
		return d.text(depth)
	case 2:
		return pick(d, d.node(), d.edge())
	}
	return d.number(depth)
}

func (d *draw) pairs() string {
	if !d.one(8) {
		return ""
	}
	keys := []string{"j", "k", "w"}
	d.Shuffle(len(keys), func(i, j int) { keys[i], keys[j] = keys[j], keys[i] })
	var out []string
	for _, key := range keys[:1+d.Intn(2)] {
		out = append(out, key+": "+pick(d, "0", "1", "2", "'a'", "true", d.prop(), d.number(1), d.any(2)))
	}
	return " {" + strings.Join(out, ", ") + "}"
}

func (d *draw) where() string {
	if !d.one(4) {
		return ""
	}
	return " where " + d.condition(pick(d, 1, 1, 2, 3))
}

func (d *draw) soughtNode() string {
	pairs := d.pairs()
	name := pick(d, "", d.bound(api.KNode), d.fresh("abcd"), d.fresh("abcd"))
	d.bind(name, api.KNode)
	return "(" + name + pick(d, "", "", ":x", ":y") + pairs + ")"
}

func (d *draw) soughtHop() string {
	pairs, star, name := d.pairs(), "", ""
	if d.one(4) {
		star = pick(d, "*", "*2", "*1..2", "*..3", "*2..3")
	} else {
		name = pick(d, "", d.fresh("efgh"), d.fresh("efgh"), d.fresh("efgh"), d.bound(api.KEdge))
		d.bind(name, api.KEdge)
	}
	ends := pick(d, []string{"-", "->"}, []string{"<-", "-"}, []string{"-", "-"})
	return ends[0] + "[" + name + pick(d, "", "", ":t", ":u") + star + pairs + "]" + ends[1]
}

func (d *draw) match() string {
	out := pick(d, "", "", "optional ") + "match " + d.joined(1, pick(d, 1, 1, 2, 3), ", ", func() string {
		path := d.soughtNode()
		for range pick(d, 0, 1, 1, 2) {
			path += d.soughtHop() + d.soughtNode()
		}
		return path
	})
	return out + d.where()
}

func (d *draw) madeNode() string {
	if n := d.bound(api.KNode); n != "" && d.one(2) {
		return "(" + n + ")"
	}
	pairs, name := d.pairs(), pick(d, "", d.fresh("abcd"))
	d.bind(name, api.KNode)
	return "(" + name + pick(d, ":x", ":new") + pairs + ")"
}

func (d *draw) create() string {
	out := "create " + d.madeNode()
	for range pick(d, 0, 1, 1, 2) {
		to := d.madeNode()
		pairs, name := d.pairs(), pick(d, "", d.fresh("efgh"))
		d.bind(name, api.KEdge)
		ends := pick(d, []string{"-", "->"}, []string{"<-", "-"})
		out += ends[0] + "[" + name + pick(d, ":t", ":u") + pairs + "]" + ends[1] + to
	}
	return out
}

func (d *draw) action() string {
	thing := d.bound(api.KNode, api.KEdge)
	switch {
	case d.one(40):
		return "abort"
	case thing == "" || d.one(3):
		return d.create()
	case d.one(4):
		pairs, name := d.pairs(), pick(d, "", d.fresh("abcd"))
		d.bind(name, api.KNode)
		return "merge (" + name + pick(d, ":x", ":y", ":new") + pairs + ")"
	case d.one(4):
		return "remove " + thing + "." + pick(d, "j", "k", "w")
	case d.one(3):
		return pick(d, "", "detach ", "detach ") + "delete " + thing
	}
	return "set " + thing + "." + pick(d, "j", "k", "w") + " = " + pick(d, d.number(2), d.number(2), d.any(2))
}

// item: with aggregates, or without.
func (d *draw) item(aggregates bool) string {
	if aggregates && d.one(2) {
		agg := func() string {
			return pick(d, "count(*)", pick(d, "count", "sum", "min", "max", "avg")+"("+pick(d, "", "", "distinct ")+pick(d, d.number(1), d.prop(), d.any(1))+")")
		}
		switch d.Intn(5) {
		case 0:
			return agg() + pick(d, " + ", " * ", " = ") + agg()
		case 1:
			return "coalesce(" + agg() + ", " + agg() + ")"
		case 2:
			return "label(" + pick(d, "min", "max") + "(" + d.node() + "))"
		}
		return agg()
	}
	if n := d.bound(0, api.KNode, api.KEdge); n != "" && d.one(2) {
		return n
	}
	return pick(d, d.prop(), d.number(2), d.any(2))
}

// given: the items, what is done with them, and the scope that they leave.
func (d *draw) given(word string) string {
	aggregates := d.one(3)
	var items []string
	var next []api.Bound
	names := []string{"p", "q", "r", "s"}
	for i := range 1 + d.Intn(3) {
		e, kind := d.item(aggregates), 0
		if at := slices.IndexFunc(d.vars, func(v api.Bound) bool { return v.Name == e }); at >= 0 {
			kind = d.vars[at].Kind
		}
		as := names[i]
		if kind != 0 && d.one(2) && !slices.ContainsFunc(next, func(v api.Bound) bool { return v.Name == e }) {
			as = e
			items = append(items, e)
		} else {
			items = append(items, e+" as "+as)
		}
		next = append(next, api.Bound{Name: as, Kind: kind})
	}
	out := word + pick(d, " ", " ", " distinct ") + strings.Join(items, ", ")
	d.vars = next
	if d.one(3) {
		out += " order by " + d.joined(1, 2, ", ", func() string {
			return pick(d, fmt.Sprint(1+d.Intn(len(next))), next[d.Intn(len(next))].Name) + pick(d, "", " desc", " asc")
		})
	}
	if d.one(6) {
		out += pick(d, " skip 1", " skip 0", " skip 2", " skip 9")
	}
	if d.one(6) {
		out += pick(d, " limit 3", " limit 1", " limit 5", " limit 0")
	}
	return out
}

func (d *draw) query() string {
	d.vars = nil
	var out []string
	for range pick(d, 0, 0, 0, 1, 1, 2) {
		out = append(out, d.part()...)
		out = append(out, d.given("with")+d.where())
	}
	out = append(out, d.part()...)
	return strings.Join(append(out, d.given("return")), " ")
}

func (d *draw) part() (out []string) {
	for range pick(d, 0, 1, 1, 1, 2) {
		out = append(out, d.match())
	}
	for range pick(d, 0, 0, 1, 3) {
		out = append(out, d.action())
	}
	return out
}
