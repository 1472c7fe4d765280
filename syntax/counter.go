package syntax

import (
	"trellis/api"
	"trellis/value"
)

// maxExprs: the most expressions that trees may have in all to be printed.
const maxExprs = 4096

// counter: asks of trees whether some text has them, and counts their expressions, so that it has soon done with trees whose parts share memory.
type counter struct {
	left int // expressions that may still come
}

func newCounter() *counter { return &counter{left: maxExprs} }

// within: is it from least to most?
func within(n, least, most int) bool { return least <= n && n <= most }

// all: is there no more of them than most, and does each one pass?
func all[T any](of []T, most int, passes func(one T) bool) bool {
	if len(of) > most {
		return false
	}
	for _, one := range of {
		if !passes(one) {
			return false
		}
	}
	return true
}

// isName: can it stand in a text as a name?
func isName(text string) bool { return value.Name(text) && !isWord(text) }

// isNameOrEmpty: where a name may be missing.
func isNameOrEmpty(text string) bool { return text == "" || isName(text) }

func (c *counter) program(qs []api.Query) bool {
	return len(qs) > 0 && all(qs, api.MaxQueries, c.query)
}

func (c *counter) query(q api.Query) bool {
	last := len(q.Parts) - 1
	if !within(last, 0, api.MaxParts-1) {
		return false
	}
	return all(q.Parts[:last], last, c.handingPart) && c.lastPart(q.Parts[last])
}

// handingPart: one behind which another part stands.
func (c *counter) handingPart(p api.Part) bool {
	return c.acting(p) && p.Gives && c.giving(p) && all(p.Items, api.MaxItems, hasName) && all(p.Where, 1, c.whole)
}

// hasName: the next part needs one for each item.
func hasName(i api.Item) bool { return i.Expr.Op == api.EVar || i.As != "" }

func (c *counter) lastPart(p api.Part) bool {
	if !c.acting(p) || len(p.Where) > 0 {
		return false
	}
	if p.Gives {
		return c.giving(p)
	}
	return len(p.Actions) > 0 && !p.Once && len(p.Items) == 0 && len(p.Order) == 0 && p.Skip == -1 && p.Limit == -1
}

// acting: what a part does ahead of what it gives.
func (c *counter) acting(p api.Part) bool {
	return all(p.Match, api.MaxMatch, c.match) && all(p.Actions, api.MaxActions, c.action)
}

// giving: what a part gives, but for what only with asks for.
func (c *counter) giving(p api.Part) bool {
	return len(p.Items) > 0 && all(p.Items, api.MaxItems, c.item) && all(p.Order, api.MaxItems, isKey) && p.Skip >= -1 && p.Limit >= -1
}

func (c *counter) item(i api.Item) bool { return isNameOrEmpty(i.As) && c.whole(i.Expr) }

func isKey(k api.OrderKey) bool {
	if k.Name != "" {
		return isName(k.Name) && k.Col == 0
	}
	return within(k.Col, 1, api.MaxItems)
}

func (c *counter) match(m api.Match) bool {
	return len(m.Paths) > 0 && all(m.Paths, api.MaxPaths, c.path) && all(m.Where, 1, c.whole)
}

func (c *counter) path(p api.Path) bool {
	return c.node(p.From) && all(p.Hops, api.MaxHops, c.hop)
}

func (c *counter) node(n api.NodePat) bool {
	return isNameOrEmpty(n.Var) && isNameOrEmpty(n.Label) && all(n.Props, api.MaxProps, c.pair)
}

func (c *counter) hop(h api.HopPat) bool {
	most := 1
	if h.Star {
		most = api.MaxLeap
	}
	if !within(h.Dir, api.DOut, api.DBoth) || !within(h.Min, 1, h.Max) || h.Max > most {
		return false
	}
	return isNameOrEmpty(h.Var) && isNameOrEmpty(h.Type) && all(h.Props, api.MaxProps, c.pair) && c.node(h.To)
}

func (c *counter) pair(p api.Pair) bool { return isName(p.Key) && c.whole(p.Val) }

// action: what its kind does not use is zero.
func (c *counter) action(a api.Action) bool {
	switch a.Kind {
	case api.ACreate:
		return aimless(a) && c.path(a.Path)
	case api.AMerge:
		return aimless(a) && len(a.Path.Hops) == 0 && c.node(a.Path.From)
	case api.ASet:
		return isOfProperty(a) && len(a.Val) == 1 && c.whole(a.Val[0])
	case api.ARemove:
		return isOfProperty(a) && len(a.Val) == 0
	case api.ADelete:
		return pathless(a) && isName(a.Var) && a.Key == "" && len(a.Val) == 0
	case api.AAbort:
		return pathless(a) && aimless(a)
	}
	return false
}

// aimless: does the action name nothing that is there already?
func aimless(a api.Action) bool {
	return a.Var == "" && a.Key == "" && len(a.Val) == 0 && !a.Detach
}

// pathless: does the action make nothing?
func pathless(a api.Action) bool {
	from := a.Path.From
	return from.Var == "" && from.Label == "" && len(from.Props) == 0 && len(a.Path.Hops) == 0
}

// isOfProperty: does the action, whatever its value is, name a property and no more?
func isOfProperty(a api.Action) bool {
	return pathless(a) && isName(a.Var) && isName(a.Key) && !a.Detach
}

// whole: an expression that is no part of another one.
func (c *counter) whole(e api.Expr) bool { return c.expr(e, api.MaxDepth) }

// expr: an expression that may be so deep.
func (c *counter) expr(e api.Expr, depth int) bool {
	if depth == 0 || c.left == 0 || !isFormed(e) {
		return false
	}
	c.left--
	for _, kid := range e.Kids {
		if !c.expr(kid, depth-1) {
			return false
		}
	}
	return true
}

// isFormed: has the expression what its Op asks for, and no more, whatever its kids are?
func isFormed(e api.Expr) bool {
	switch e.Op {
	case api.ELit:
		return isLiteral(e.Val) && hasOnly(e, api.Expr{Val: e.Val}, 0, 0)
	case api.EVar:
		return isName(e.Name) && hasOnly(e, api.Expr{Name: e.Name}, 0, 0)
	case api.EProp:
		return isName(e.Name) && isName(e.Key) && hasOnly(e, api.Expr{Name: e.Name, Key: e.Key}, 0, 0)
	case api.EUn:
		return within(e.Sub, api.UNeg, api.UNot) && hasOnly(e, api.Expr{Sub: e.Sub}, 1, 1)
	case api.EBin:
		return isOperator(e.Sub) && hasOnly(e, api.Expr{Sub: e.Sub}, 2, 2)
	case api.ENull:
		return within(e.Sub, 1, 2) && hasOnly(e, api.Expr{Sub: e.Sub}, 1, 1)
	case api.ECall:
		return isCall(e)
	case api.EAgg:
		return isAggregate(e)
	case api.ECase:
		return len(e.Kids)%2 == 1 && hasOnly(e, api.Expr{}, 3, api.MaxArgs)
	case api.EIn:
		return hasOnly(e, api.Expr{}, 1, api.MaxArgs)
	}
	return false
}

// hasOnly: are the fields of the expression those of the bare one, and its kids from least to most?
func hasOnly(e, bare api.Expr, least, most int) bool {
	return e.Sub == bare.Sub && e.Val == bare.Val && e.Name == bare.Name && e.Key == bare.Key && e.Once == bare.Once && within(len(e.Kids), least, most)
}

// isLiteral: is it a value that a text can have in one token, but for a sign?
func isLiteral(v api.Val) bool {
	return value.Valid(v) && v.Kind != api.KNode && v.Kind != api.KEdge && (v.Kind != api.KCpx || v.A == 0)
}

// isOperator: does the operation stand between its two kids?
func isOperator(sub int) bool {
	return within(sub, api.BAdd, api.BHas) && sub != api.BCpx
}

func isCall(e api.Expr) bool {
	if !within(e.Sub, api.FRe, api.FCoalesce) {
		return false
	}
	f := functions[e.Sub]
	return isNameOf(f, e.Name, 1) && isNameOf(f, e.Key, 2) && hasOnly(e, api.Expr{Sub: e.Sub, Name: e.Name, Key: e.Key}, f.least, f.most)
}

// isNameOf: can the text, which may be empty, be the name of that number in the function's brackets?
func isNameOf(f function, text string, number int) bool {
	if text == "" {
		return number > f.needs
	}
	return number <= f.may && isName(text)
}

// isAggregate: only the count can do without a kid, and then it has nothing to be distinct.
func isAggregate(e api.Expr) bool {
	least := 1
	if e.Sub == api.GCount && !e.Once {
		least = 0
	}
	return within(e.Sub, api.GCount, api.GAvg) && hasOnly(e, api.Expr{Sub: e.Sub, Once: e.Once}, least, 1)
}
