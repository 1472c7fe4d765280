package syntax

import (
	"strconv"
	"strings"

	"trellis/api"
)

// What is printed here has the form: a counter has passed it.

// joined: the texts of all, with what stands between them.
func joined[T any](of []T, between string, text func(one T) string) string {
	texts := make([]string, 0, len(of))
	for _, one := range of {
		texts = append(texts, text(one))
	}
	return strings.Join(texts, between)
}

func programText(qs []api.Query) string { return joined(qs, "; ", queryText) }

func queryText(q api.Query) string {
	last := len(q.Parts) - 1
	var clauses []string
	for i, p := range q.Parts {
		for _, m := range p.Match {
			clauses = append(clauses, matchText(m))
		}
		for _, a := range p.Actions {
			clauses = append(clauses, actionText(a))
		}
		switch {
		case i < last:
			clauses = append(clauses, "with "+givenText(p)+whereText(p.Where))
		case p.Gives:
			clauses = append(clauses, "return "+givenText(p))
		}
	}
	return strings.Join(clauses, " ")
}

func matchText(m api.Match) string {
	text := "match " + joined(m.Paths, ", ", pathText) + whereText(m.Where)
	if m.Optional {
		return "optional " + text
	}
	return text
}

// whereText: with a blank ahead, if there is a condition.
func whereText(where []api.Expr) string {
	if len(where) == 0 {
		return ""
	}
	return " where " + exprText(where[0])
}

func actionText(a api.Action) string {
	switch a.Kind {
	case api.ACreate:
		return "create " + pathText(a.Path)
	case api.AMerge:
		return "merge " + nodeText(a.Path.From)
	case api.ASet:
		return "set " + a.Var + "." + a.Key + " = " + exprText(a.Val[0])
	case api.ARemove:
		return "remove " + a.Var + "." + a.Key
	case api.ADelete:
		if a.Detach {
			return "detach delete " + a.Var
		}
		return "delete " + a.Var
	}
	return "abort"
}

// givenText: what stands behind with or return, but for the condition.
func givenText(p api.Part) string {
	text := joined(p.Items, ", ", itemText)
	if p.Once {
		text = "distinct " + text
	}
	if len(p.Order) > 0 {
		text += " order by " + joined(p.Order, ", ", keyText)
	}
	return text + countText(" skip ", p.Skip) + countText(" limit ", p.Limit)
}

// countText: nothing for -1, which is no count.
func countText(word string, n int) string {
	if n < 0 {
		return ""
	}
	return word + strconv.Itoa(n)
}

func itemText(i api.Item) string {
	if i.As == "" {
		return exprText(i.Expr)
	}
	return exprText(i.Expr) + " as " + i.As
}

func keyText(k api.OrderKey) string {
	text := k.Name
	if text == "" {
		text = strconv.Itoa(k.Col)
	}
	if k.Desc {
		return text + " desc"
	}
	return text
}

func pathText(p api.Path) string {
	return nodeText(p.From) + joined(p.Hops, "", hopText)
}

func nodeText(n api.NodePat) string {
	return "(" + withProps(n.Var+behind(":", n.Label), n.Props) + ")"
}

func hopText(h api.HopPat) string {
	inside := h.Var + behind(":", h.Type)
	if h.Star {
		inside += "*" + strconv.Itoa(h.Min) + ".." + strconv.Itoa(h.Max)
	}
	left, right := "-[", "]-"
	switch h.Dir {
	case api.DIn:
		left = "<-["
	case api.DOut:
		right = "]->"
	}
	return left + withProps(inside, h.Props) + right + nodeText(h.To)
}

// behind: the name with the mark ahead; nothing where it is missing.
func behind(mark, name string) string {
	if name == "" {
		return ""
	}
	return mark + name
}

// withProps: what stands in brackets, with the pairs behind it, if there are any.
func withProps(text string, props []api.Pair) string {
	if len(props) == 0 {
		return text
	}
	if text != "" {
		text += " "
	}
	return text + "{" + joined(props, ", ", pairText) + "}"
}

func pairText(p api.Pair) string { return p.Key + ": " + exprText(p.Val) }
