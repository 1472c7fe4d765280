package syntax

import (
	"strconv"
	"strings"

	"trellis/api"
	"trellis/value"
)

func exprText(e api.Expr) string {
	switch e.Op {
	case api.ELit:
		return literalText(e.Val)
	case api.EVar:
		return e.Name
	case api.EProp:
		return e.Name + "." + e.Key
	case api.EUn:
		return unaryText(e)
	case api.EBin:
		return binaryText(e)
	case api.ENull:
		return nullText(e)
	case api.ECall:
		return callText(e)
	case api.EAgg:
		return aggregateText(e)
	case api.ECase:
		return caseText(e.Kids)
	}
	return kidText(e.Kids[0], rankSum) + " in [" + joined(e.Kids[1:], ", ", exprText) + "]"
}

// literalText: as the value is printed, but for a complex one: that has its second part alone.
func literalText(v api.Val) string {
	if v.Kind == api.KCpx {
		return strconv.FormatInt(v.B, 10) + "i"
	}
	return value.Print(v)
}

// kidText: in brackets, if it binds less tightly than it needs to.
func kidText(e api.Expr, needs int) string {
	if rankOf(e) < needs {
		return "(" + exprText(e) + ")"
	}
	return exprText(e)
}

// rankOf: how tightly the expression binds. A sign of a literal binds as one ahead of an expression does.
func rankOf(e api.Expr) int {
	switch {
	case e.Op == api.EUn:
		return signs[e.Sub].rank
	case e.Op == api.EBin:
		return operators[e.Sub].rank
	case isNumber(e) && (e.Val.A < 0 || e.Val.B < 0):
		return rankMinus
	}
	return ranks[e.Op]
}

// isNumber: is it a number's literal?
func isNumber(e api.Expr) bool {
	return e.Op == api.ELit && (e.Val.Kind == api.KInt || e.Val.Kind == api.KCpx)
}

// unaryText: a number without a sign of its own stands in brackets behind a minus sign, which would become its own.
func unaryText(e api.Expr) string {
	sign, kid := signs[e.Sub], e.Kids[0]
	switch {
	case e.Sub == api.UNot:
		return sign.text + " " + kidText(kid, sign.rank)
	case isNumber(kid) && rankOf(kid) == rankAtom:
		return sign.text + "(" + exprText(kid) + ")"
	}
	return sign.text + kidText(kid, sign.rank)
}

// binaryText: both kids of a test bind more tightly than a test; of the others the right one alone does.
func binaryText(e api.Expr) string {
	o := operators[e.Sub]
	left := o.rank
	if o.rank == rankTest {
		left++
	}
	between := " " + o.text + " "
	if o.with {
		between += "with "
	}
	return kidText(e.Kids[0], left) + between + kidText(e.Kids[1], o.rank+1)
}

func nullText(e api.Expr) string {
	tested := kidText(e.Kids[0], rankSum)
	if e.Sub == 2 {
		return tested + " is not null"
	}
	return tested + " is null"
}

func callText(e api.Expr) string {
	return functions[e.Sub].name + "(" + joined(e.Kids, ", ", exprText) + behind(", ", e.Name) + behind(", ", e.Key) + ")"
}

func aggregateText(e api.Expr) string {
	inside := "*"
	if len(e.Kids) > 0 {
		inside = exprText(e.Kids[0])
	}
	if e.Once {
		inside = "distinct " + inside
	}
	return aggregates[e.Sub] + "(" + inside + ")"
}

func caseText(kids []api.Expr) string {
	var b strings.Builder
	b.WriteString("case")
	last := len(kids) - 1
	for i := 0; i < last; i += 2 {
		b.WriteString(" when " + exprText(kids[i]) + " then " + exprText(kids[i+1]))
	}
	b.WriteString(" else " + exprText(kids[last]) + " end")
	return b.String()
}
