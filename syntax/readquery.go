package syntax

import (
	"math"

	"trellis/api"
)

// program: queries with ; between, and one behind the last as one likes.
func (r *reader) program() []api.Query {
	out := []api.Query{r.query()}
	for r.took(";") && !r.atEnd() {
		r.must(r.atQuery())
		r.room(len(out), api.MaxQueries)
		out = append(out, r.query())
	}
	return out
}

func (r *reader) atQuery() bool { return r.atMatch() || r.atActions() || r.seesOne("with", "return") }
func (r *reader) atMatch() bool { return r.seesOne("optional", "match") }
func (r *reader) atActions() bool {
	return r.seesOne("create", "merge", "set", "remove", "detach", "delete", "abort")
}

// query: a part for each with, and the last one.
func (r *reader) query() api.Query {
	var q api.Query
	for {
		p := r.part()
		if !r.sees("with") {
			q.Parts = append(q.Parts, r.lastPart(p))
			return q
		}
		r.room(len(q.Parts), api.MaxParts-1) // with it, one more part is to come
		q.Parts = append(q.Parts, r.handingPart(p))
	}
}

// part: matches and actions, what it gives still missing.
func (r *reader) part() api.Part {
	p := api.Part{Skip: -1, Limit: -1}
	for r.atMatch() {
		r.room(len(p.Match), api.MaxMatch)
		p.Match = append(p.Match, r.match())
	}
	for r.atActions() {
		r.room(len(p.Actions), api.MaxActions)
		p.Actions = r.actions(p.Actions)
	}
	return p
}

// handingPart: the part with what it hands on to the next one.
func (r *reader) handingPart(p api.Part) api.Part {
	r.need("with")
	p = r.given(p, (*reader).handedItem)
	p.Where = r.where()
	return p
}

// lastPart: the part with what it returns; only behind actions that may be nothing.
func (r *reader) lastPart(p api.Part) api.Part {
	if r.took("return") {
		return r.given(p, (*reader).item)
	}
	r.must(len(p.Actions) > 0)
	return p
}

// given: the part with what it gives.
func (r *reader) given(p api.Part, item func(r *reader) api.Item) api.Part {
	p.Gives = true
	p.Once = r.took("distinct")
	p.Items = list(r, p.Items, api.MaxItems, (*reader).atExpr, item)
	if r.took("order") {
		r.need("by")
		p.Order = list(r, p.Order, api.MaxItems, (*reader).atKey, (*reader).key)
	}
	if r.took("skip") {
		p.Skip = r.number(0, math.MaxInt64)
	}
	if r.took("limit") {
		p.Limit = r.number(0, math.MaxInt64)
	}
	return p
}

func (r *reader) item() api.Item {
	return api.Item{Expr: r.whole(), As: r.nameBehind("as")}
}

// handedItem: an item behind with: the next part must have a name for it.
func (r *reader) handedItem() api.Item {
	e := r.whole()
	r.must(e.Op == api.EVar || r.sees("as"))
	return api.Item{Expr: e, As: r.nameBehind("as")}
}

func (r *reader) atKey() bool { return r.atName() || r.seesNumber(1, api.MaxItems) }

// key: a column's number or its name, rising where nothing else is said.
func (r *reader) key() api.OrderKey {
	var k api.OrderKey
	if r.atName() {
		k.Name = r.name()
	} else {
		k.Col = r.number(1, api.MaxItems)
	}
	k.Desc = r.took("desc")
	if !k.Desc {
		r.took("asc")
	}
	return k
}

func (r *reader) match() api.Match {
	optional := r.took("optional")
	r.need("match")
	paths := list(r, nil, api.MaxPaths, (*reader).atPath, (*reader).path)
	return api.Match{Optional: optional, Paths: paths, Where: r.where()}
}

// where: the condition that stands here, if one does.
func (r *reader) where() []api.Expr {
	if !r.took("where") {
		return nil
	}
	return []api.Expr{r.whole()}
}

// actions: out, and the actions of one word behind it, one for each path, node, property or name.
func (r *reader) actions(out []api.Action) []api.Action {
	switch r.pass().Text {
	case "create":
		return list(r, out, api.MaxActions, (*reader).atPath, (*reader).create)
	case "merge":
		return list(r, out, api.MaxActions, (*reader).atPath, (*reader).merge)
	case "set":
		return list(r, out, api.MaxActions, (*reader).atName, (*reader).set)
	case "remove":
		return list(r, out, api.MaxActions, (*reader).atName, (*reader).remove)
	case "detach":
		r.need("delete")
		return list(r, out, api.MaxActions, (*reader).atName, (*reader).detach)
	case "delete":
		return list(r, out, api.MaxActions, (*reader).atName, (*reader).delete)
	}
	return append(out, api.Action{Kind: api.AAbort})
}

func (r *reader) create() api.Action {
	return api.Action{Kind: api.ACreate, Path: r.path()}
}

func (r *reader) merge() api.Action {
	return api.Action{Kind: api.AMerge, Path: api.Path{From: r.node()}}
}

func (r *reader) set() api.Action {
	a := r.property(api.ASet)
	r.need("=")
	a.Val = []api.Expr{r.whole()}
	return a
}

func (r *reader) remove() api.Action { return r.property(api.ARemove) }

func (r *reader) detach() api.Action {
	return api.Action{Kind: api.ADelete, Var: r.name(), Detach: true}
}

func (r *reader) delete() api.Action {
	return api.Action{Kind: api.ADelete, Var: r.name()}
}

// property: an action of that kind on a variable's property.
func (r *reader) property(kind int) api.Action {
	a := api.Action{Kind: kind, Var: r.name()}
	r.need(".")
	a.Key = r.name()
	return a
}
