package check

import "trellis/api"

// form: an expression, inside: a type of its own for each form. kids: from left to right.
type form interface {
	kids() []form
}

type literal struct{ kind int }

type variable struct{ name string }

type property struct{ name string }

// unary, binary: operations of package value, also those that are written as calls.
type unary struct {
	op int
	of form
}

type binary struct {
	op          int
	left, right form
}

type nullTest struct{ of form }

// membership: is the first kid among the others?
type membership struct{ all []form }

// firstKnown: the first kid that is not null.
type firstKnown struct{ all []form }

// choice: conditions, each with its value behind it, and the else.
type choice struct{ all []form }

// asking: a call that asks the graph: what it takes, and what it gives for that.
type asking struct {
	question
	of []form
}

// aggregate: without a kid it counts rows.
type aggregate struct {
	sub int
	of  []form
}

func (literal) kids() []form      { return nil }
func (variable) kids() []form     { return nil }
func (property) kids() []form     { return nil }
func (x unary) kids() []form      { return []form{x.of} }
func (x binary) kids() []form     { return []form{x.left, x.right} }
func (x nullTest) kids() []form   { return []form{x.of} }
func (x membership) kids() []form { return x.all }
func (x firstKnown) kids() []form { return x.all }
func (x choice) kids() []form     { return x.all }
func (x asking) kids() []form     { return x.of }
func (x aggregate) kids() []form  { return x.of }

// question: which kind of thing a call of the graph is asked of, and the kinds of its answers.
type question struct {
	about int
	gives kinds
}

// questions: by the Sub of a call.
var questions = [...]question{
	api.FLabel: {api.KNode, 1 << api.KStr},
	api.FType:  {api.KEdge, 1 << api.KStr},
	api.FDeg:   {api.KNode, 1 << api.KInt},
	api.FDist:  {api.KNode, 1<<api.KInt | 1<<api.KNull},
	api.FHops:  {api.KNode, 1<<api.KInt | 1<<api.KNull},
}

// operations: the operation of package value that a call of one kid stands for, by its Sub.
var operations = [...]int{
	api.FRe:   api.URe,
	api.FIm:   api.UIm,
	api.FConj: api.UConj,
	api.FNorm: api.UNorm,
	api.FLen:  api.ULen,
	api.FAbs:  api.UAbs,
}

// formOf: the expression, of which some text is known to be there, as its form.
func formOf(e api.Expr) form {
	kids := make([]form, 0, len(e.Kids))
	for _, kid := range e.Kids {
		kids = append(kids, formOf(kid))
	}
	switch e.Op {
	case api.ELit:
		return literal{e.Val.Kind}
	case api.EVar:
		return variable{e.Name}
	case api.EProp:
		return property{e.Name}
	case api.EUn:
		return unary{e.Sub, kids[0]}
	case api.EBin:
		return binary{e.Sub, kids[0], kids[1]}
	case api.ENull:
		return nullTest{kids[0]}
	case api.ECall:
		return callOf(e.Sub, kids)
	case api.EAgg:
		return aggregate{e.Sub, kids}
	case api.ECase:
		return choice{kids}
	}
	return membership{kids}
}

func callOf(sub int, kids []form) form {
	switch sub {
	case api.FCoalesce:
		return firstKnown{kids}
	case api.FCpx:
		return binary{api.BCpx, kids[0], kids[1]}
	case api.FLabel, api.FType, api.FDeg, api.FDist, api.FHops:
		return asking{questions[sub], kids}
	}
	return unary{operations[sub], kids[0]}
}
