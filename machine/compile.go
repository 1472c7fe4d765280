package machine

import (
	"trellis/api"
	"trellis/syntax"
)

// scope: the places of the variables in a row, by their names.
type scope map[string]int

func scopeOf(vars []api.Bound) scope {
	s := scope{}
	for i, v := range vars {
		s[v.Name] = i
	}
	return s
}

// variable: a variable of a pattern. bound: it has a value already when the pattern is come to.
type variable struct {
	there bool
	place int
	bound bool
}

// meet: a pattern comes to that variable, if it names one, and binds it, if it is new.
func (s scope) meet(name string) variable {
	if name == "" {
		return variable{}
	}
	place, bound := s[name]
	if !bound {
		place = len(s)
		s[name] = place
	}
	return variable{there: true, place: place, bound: bound}
}

// bind: the variable, if there is one, has that value from here on. (One that is bound has it already.)
func (v variable) bind(x row, val api.Val) {
	if v.there {
		x[v.place] = val
	}
}

// other: has the variable been bound to anything but that value?
func (v variable) other(x row, val api.Val) bool { return v.bound && x[v.place] != val }

// nodePattern: a node of a path that is sought or made, or one that is merged.
type nodePattern struct {
	variable
	label string
	pairs []pair
}

func (s scope) nodePattern(n api.NodePat) nodePattern {
	pairs := s.pairs(n.Props) // ahead of its own variable
	return nodePattern{s.meet(n.Var), n.Label, pairs}
}

// partsOf: the parts of a query that makes sense.
func partsOf(q api.Query) []part {
	var out []part
	s := scope{}
	for _, p := range q.Parts {
		columns := columnsOf(p.Items)
		out = append(out, s.part(p, columns))
		s = columns
	}
	return out
}

// columnsOf: the places of the columns in a row of these, by their names: the scope of the next part.
func columnsOf(items []api.Item) scope {
	s := scope{}
	for i, x := range items {
		name := x.As
		if name == "" {
			name, _ = syntax.PrintExpr(x.Expr)
		}
		s[name] = i
	}
	return s
}

func (s scope) part(p api.Part, columns scope) part {
	out := part{give: givesNothing}
	for _, m := range p.Match {
		out.matches = append(out.matches, s.match(m))
	}
	for _, a := range p.Actions {
		out.actions = append(out.actions, s.action(a))
	}
	out.width = len(s)
	if p.Gives {
		out.give = s.given(p, columns).give
	}
	return out
}

// compiler: compiles an expression. aggregates: those that it has met, in order.
type compiler struct {
	scope      scope
	aggregates []aggregate
}

// worth: of an expression without aggregates.
func (s scope) worth(e api.Expr) worth {
	c := compiler{scope: s}
	return c.worth(e)
}

// condition: none or one; none is always met.
func (s scope) condition(where []api.Expr) worth {
	if len(where) == 0 {
		return literal(truth(true))
	}
	return s.worth(where[0])
}

func (s scope) pairs(of []api.Pair) []pair {
	var out []pair
	for _, p := range of {
		out = append(out, pair{p.Key, s.worth(p.Val)})
	}
	return out
}

func (c *compiler) worth(e api.Expr) worth {
	var kids []worth
	for _, kid := range e.Kids {
		kids = append(kids, c.worth(kid))
	}
	switch {
	case e.Op == api.ELit:
		return literal(e.Val)
	case e.Op == api.EVar:
		return standsAt(c.scope[e.Name])
	case e.Op == api.EProp:
		return strict{[]worth{standsAt(c.scope[e.Name])}, property(e.Key)}.worth
	case e.Op == api.EAgg:
		return c.aggregate(e, kids)
	case e.Op == api.ECase:
		return choice{kids}.worth
	case e.Op == api.ECall && e.Sub == api.FCoalesce:
		return firstKnown{kids}.worth
	}
	return strict{kids, operationOf(e)}.worth
}

// aggregate: the expression around it is evaluated in a row of what its aggregates are worth.
func (c *compiler) aggregate(e api.Expr, kids []worth) worth {
	a := aggregate{sub: e.Sub, once: e.Once, kid: literal(truth(true))} // without a kid it counts the rows: each has something that is not null
	if len(kids) > 0 {
		a.kid = kids[0]
	}
	c.aggregates = append(c.aggregates, a)
	return standsAt(len(c.aggregates) - 1)
}

// operationOf: the operation of an expression that evaluates all its kids.
func operationOf(e api.Expr) operation {
	switch e.Op {
	case api.EUn:
		return unary(e.Sub)
	case api.EBin:
		return binary(e.Sub)
	case api.ENull:
		return nullTest(e.Sub == 1)
	case api.EIn:
		return among
	}
	return callOf(e.Sub, e.Name, e.Key)
}

// unaries: the operation of package value that a call of one kid stands for, by its Sub.
var unaries = [...]int{
	api.FRe:   api.URe,
	api.FIm:   api.UIm,
	api.FConj: api.UConj,
	api.FNorm: api.UNorm,
	api.FLen:  api.ULen,
	api.FAbs:  api.UAbs,
}

// callOf: the operation of a call; name, key: an edge type and a weight's key.
func callOf(sub int, name, key string) operation {
	switch sub {
	case api.FCpx:
		return binary(api.BCpx)
	case api.FLabel:
		return about(api.KNode, label)
	case api.FType:
		return about(api.KEdge, typeOf)
	case api.FDeg:
		return about(api.KNode, degree(name))
	case api.FHops:
		return between(hops(name))
	case api.FDist:
		return between(dist(name, key))
	}
	return unary(unaries[sub])
}
