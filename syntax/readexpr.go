package syntax

import (
	"math"

	"trellis/api"
)

// atExpr: can the next token begin an expression?
func (r *reader) atExpr() bool {
	return r.atAtom() || r.seesOne("not", "-")
}

func (r *reader) atAtom() bool {
	switch r.next().Kind {
	case api.TokName, api.TokImag, api.TokString:
		return true
	case api.TokNumber:
		return r.seesNumber(0, math.MaxInt64)
	}
	return r.seesOne("null", "true", "false", "(", "case")
}

// whole: an expression that is no part of another one: only of that the depth is looked at, when it is read to its end.
func (r *reader) whole() api.Expr {
	first := r.next()
	e := r.expr()
	if deeper(e, api.MaxDepth) {
		panic(fault{api.ErrDeep, first.At})
	}
	return e
}

// deeper: is the expression deeper than that?
func deeper(e api.Expr, most int) bool {
	if most == 0 {
		return true
	}
	for _, kid := range e.Kids {
		if deeper(kid, most-1) {
			return true
		}
	}
	return false
}

func (r *reader) expr() api.Expr { return r.ranked(rankOr) }

// ranked: an expression that binds as tightly as the rank at least. Of several operators in a row the left ones go together first.
func (r *reader) ranked(rank int) api.Expr {
	switch rank {
	case rankNot:
		return r.not()
	case rankTest:
		return r.test()
	case rankMinus:
		return r.minus()
	}
	left := r.ranked(rank + 1)
	for sub := r.operator(rank); sub != 0; sub = r.operator(rank) {
		r.pass()
		left = binary(sub, left, r.ranked(rank+1))
	}
	return left
}

// operator: the Sub of the operator that the next token begins, of that rank; 0 where it is none.
func (r *reader) operator(rank int) int {
	for sub, o := range operators {
		if o.rank == rank && r.sees(o.text) {
			return sub
		}
	}
	return 0
}

func unary(sub int, kid api.Expr) api.Expr {
	return api.Expr{Op: api.EUn, Sub: sub, Kids: []api.Expr{kid}}
}

func binary(sub int, left, right api.Expr) api.Expr {
	return api.Expr{Op: api.EBin, Sub: sub, Kids: []api.Expr{left, right}}
}

func literal(v api.Val) api.Expr { return api.Expr{Op: api.ELit, Val: v} }

func (r *reader) not() api.Expr {
	if !r.took("not") {
		return r.ranked(rankTest)
	}
	return unary(api.UNot, r.ranked(rankNot))
}

// test: a sum, and one test of it at most.
func (r *reader) test() api.Expr {
	left := r.ranked(rankSum)
	if sub := r.operator(rankTest); sub != 0 {
		r.pass()
		if operators[sub].with {
			r.need("with")
		}
		return binary(sub, left, r.ranked(rankSum))
	}
	switch {
	case r.took("is"):
		return r.nullTest(left)
	case r.took("in"):
		return r.inList(left)
	}
	return left
}

// nullTest: "is" is read already.
func (r *reader) nullTest(of api.Expr) api.Expr {
	sub := 1
	if r.took("not") {
		sub = 2
	}
	r.need("null")
	return api.Expr{Op: api.ENull, Sub: sub, Kids: []api.Expr{of}}
}

// inList: "in" is read already.
func (r *reader) inList(of api.Expr) api.Expr {
	kids := []api.Expr{of}
	r.need("[")
	if !r.sees("]") {
		kids = list(r, kids, api.MaxArgs, (*reader).atExpr, (*reader).expr)
	}
	r.need("]")
	return api.Expr{Op: api.EIn, Kids: kids}
}

// minus: a sign directly ahead of a number is the number's own.
func (r *reader) minus() api.Expr {
	if !r.took("-") {
		return r.atom()
	}
	switch r.next().Kind {
	case api.TokNumber:
		return literal(api.Val{Kind: api.KInt, A: -int64(wholeOf(r.pass().Text))}) // the greatest one wraps round to the least value, as it should
	case api.TokImag:
		return literal(api.Val{Kind: api.KCpx, B: -r.imag()})
	}
	return unary(api.UNeg, r.ranked(rankMinus))
}

// imag: the number ahead of the i.
func (r *reader) imag() int64 {
	text := r.pass().Text
	return int64(wholeOf(text[:len(text)-1]))
}

func (r *reader) atom() api.Expr {
	r.must(r.atAtom())
	switch r.next().Kind {
	case api.TokName:
		return r.named()
	case api.TokNumber:
		return literal(api.Val{Kind: api.KInt, A: int64(wholeOf(r.pass().Text))})
	case api.TokImag:
		return literal(api.Val{Kind: api.KCpx, B: r.imag()})
	case api.TokString:
		return literal(api.Val{Kind: api.KStr, S: r.pass().Text})
	}
	switch r.pass().Text {
	case "true":
		return literal(api.Val{Kind: api.KBool, A: 1})
	case "false":
		return literal(api.Val{Kind: api.KBool})
	case "(":
		e := r.expr()
		r.need(")")
		return e
	case "case":
		return r.cases()
	}
	return literal(api.Val{})
}

// cases: "case" is read already. Each "when" has room for two kids and the else's.
func (r *reader) cases() api.Expr {
	e := api.Expr{Op: api.ECase}
	for len(e.Kids) == 0 || r.sees("when") {
		r.room(len(e.Kids), api.MaxArgs-2)
		r.need("when")
		e.Kids = append(e.Kids, r.expr())
		r.need("then")
		e.Kids = append(e.Kids, r.expr())
	}
	last := literal(api.Val{})
	if r.took("else") {
		last = r.expr()
	}
	r.need("end")
	e.Kids = append(e.Kids, last)
	return e
}

// named: what begins with a name: a call just if a bracket stands behind the name of a function or an aggregate.
func (r *reader) named() api.Expr {
	name := r.name()
	if r.sees("(") {
		if sub := functionOf(name); sub != 0 {
			return r.call(sub)
		}
		if sub := aggregateOf(name); sub != 0 {
			return r.aggregate(sub)
		}
	}
	if r.took(".") {
		return api.Expr{Op: api.EProp, Name: name, Key: r.name()}
	}
	return api.Expr{Op: api.EVar, Name: name}
}

// functionOf: the Sub of the function of that name; 0 where there is none.
func functionOf(name string) int {
	for sub, f := range functions {
		if f.name == name {
			return sub
		}
	}
	return 0
}

// aggregateOf: the Sub of the aggregate of that name; 0 where there is none.
func aggregateOf(name string) int {
	for sub, n := range aggregates {
		if n == name {
			return sub
		}
	}
	return 0
}

// call: the function's name is read already.
func (r *reader) call(sub int) api.Expr {
	f := functions[sub]
	e := api.Expr{Op: api.ECall, Sub: sub}
	r.need("(")
	if f.least < f.most {
		e.Kids = list(r, e.Kids, f.most, (*reader).atExpr, (*reader).expr)
	} else {
		e.Kids = r.exprs(f.least)
	}
	if f.needs > 0 || f.may > 0 && r.sees(",") {
		r.need(",")
		e.Name = r.name()
	}
	if f.needs > 1 {
		r.need(",")
		e.Key = r.name()
	}
	r.need(")")
	return e
}

// exprs: so many expressions with commas between.
func (r *reader) exprs(count int) []api.Expr {
	out := []api.Expr{r.expr()}
	for len(out) < count {
		r.need(",")
		out = append(out, r.expr())
	}
	return out
}

// aggregate: its name is read already. Only the rows can be counted themselves.
func (r *reader) aggregate(sub int) api.Expr {
	e := api.Expr{Op: api.EAgg, Sub: sub}
	r.need("(")
	if sub != api.GCount || !r.took("*") {
		e.Once = r.took("distinct")
		e.Kids = []api.Expr{r.expr()}
	}
	r.need(")")
	return e
}
