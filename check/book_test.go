package check_test

import (
	"trellis/api"
	"trellis/syntax"
	"trellis/value"
)

// A second reckoning of the whole, by the chapter's words, over the trees as they are: a fault is a panic; sets of kinds are lists of seven bools; what an operation gives is tried out with values.

type set [7]bool

func setOf(kinds ...int) (s set) {
	for _, k := range kinds {
		s[k] = true
	}
	return s
}

func (s set) with(other set) set {
	for k := range s {
		s[k] = s[k] || other[k]
	}
	return s
}

func (s set) without(kind int) set { s[kind] = false; return s }

func (s set) none() bool { return s == set{} }

// known: can it be other than null?
func (s set) known() bool { return !s.without(api.KNull).none() }

func (s set) sum() int {
	sum := 0
	for k, there := range s {
		if there {
			sum += 1 << k
		}
	}
	return sum
}

// samples: values of a kind, among them some for which each operation that takes the kind answers one, in each way.
func samples(kind int) []api.Val {
	whole := func(a int64) api.Val { return api.Val{Kind: kind, A: a} }
	switch kind {
	case api.KNull:
		return []api.Val{{}}
	case api.KBool:
		return []api.Val{whole(0), whole(1)}
	case api.KInt:
		return []api.Val{whole(0), whole(1), whole(-2), whole(7), whole(1 << 62), whole(-1 << 63)}
	case api.KCpx:
		return []api.Val{whole(0), whole(1), {Kind: kind, B: 1}, {Kind: kind, A: 3, B: -4}, {Kind: kind, A: api.MaxPart, B: api.MaxPart}}
	case api.KStr:
		return []api.Val{{Kind: kind}, {Kind: kind, S: "a"}, {Kind: kind, S: "abc"}, {Kind: kind, S: "abcdefghabcdefghabcdefghabcdefgh"}}
	}
	return []api.Val{whole(1), whole(-3), whole(8)}
}

// tried: the kinds of the operation for one kind each, found by trying; kept, since it is asked again and again.
var triedUnary = map[[2]int]set{}
var triedBinary = map[[3]int]set{}

func bookUnary(op int, of set) (out set) {
	for k, there := range of {
		if there {
			out = out.with(tryUnary(op, k))
		}
	}
	return out
}

func tryUnary(op, kind int) set {
	out, there := triedUnary[[2]int{op, kind}]
	if !there {
		for _, v := range samples(kind) {
			if got, code := value.Unary(op, v); code == api.OK {
				out[got.Kind] = true
			}
		}
		triedUnary[[2]int{op, kind}] = out
	}
	return out
}

func bookBinary(op int, left, right set) (out set) {
	for a, thereA := range left {
		for b, thereB := range right {
			if thereA && thereB {
				out = out.with(tryBinary(op, a, b))
			}
		}
	}
	return out
}

func tryBinary(op, a, b int) set {
	out, there := triedBinary[[3]int{op, a, b}]
	if !there {
		for _, x := range samples(a) {
			for _, y := range samples(b) {
				if got, code := value.Binary(op, x, y); code == api.OK {
					out[got.Kind] = true
				}
			}
		}
		triedBinary[[3]int{op, a, b}] = out
	}
	return out
}

// book: what was met so far.
type book struct {
	vars               []api.Bound
	writes, aggregates bool
	cols               []string
	allowed, somewhere bool // of the expression that is walked
	inside             bool
}

func must(sound bool, code api.Errno) {
	if !sound {
		panic(code)
	}
}

func catch(into *api.Errno) {
	if why := recover(); why != nil {
		*into = why.(api.Errno)
	}
}

func (b *book) find(name string) (int, bool) {
	for _, v := range b.vars {
		if v.Name == name {
			return v.Kind, true
		}
	}
	return 0, false
}

func (b *book) bound(name string) bool {
	_, bound := b.find(name)
	return bound
}

func (b *book) bind(name string, kind int) {
	if name != "" {
		b.vars = append(b.vars, api.Bound{Name: name, Kind: kind})
	}
}

func bookHas(e api.Expr) bool {
	has := e.Op == api.EAgg
	for _, kid := range e.Kids {
		has = has || bookHas(kid)
	}
	return has
}

// walk: a node of the expression, then its kids.
func (b *book) walk(e api.Expr) {
	switch e.Op {
	case api.EVar, api.EProp:
		must(b.bound(e.Name), api.ErrUnbound)
		must(b.inside || !b.somewhere, api.ErrPlace)
	case api.ECall:
		for _, kid := range e.Kids {
			if kid.Op != api.EVar {
				continue
			}
			kind, _ := b.find(kid.Name)
			switch e.Sub {
			case api.FLabel, api.FDeg, api.FDist, api.FHops:
				must(kind != api.KEdge, api.ErrMix)
			case api.FType:
				must(kind != api.KNode, api.ErrMix)
			}
		}
	case api.EAgg:
		must(b.allowed && !b.inside, api.ErrPlace)
		b.inside = true
		defer func() { b.inside = false }()
	}
	for _, kid := range e.Kids {
		b.walk(kid)
	}
}

func (b *book) names(e api.Expr, allowed bool) {
	b.allowed, b.somewhere = allowed, bookHas(e)
	b.walk(e)
}

func (b *book) check(e api.Expr, allowed bool) set {
	b.names(e, allowed)
	kinds := b.kinds(e)
	must(!kinds.none(), api.ErrKind)
	return kinds
}

func (b *book) condition(where []api.Expr) {
	for _, e := range where {
		kinds := b.check(e, false)
		must(kinds[api.KNull] || kinds[api.KBool], api.ErrKind)
	}
}

func (b *book) kinds(e api.Expr) set {
	var kids []set
	for _, kid := range e.Kids {
		kids = append(kids, b.kinds(kid))
	}
	switch e.Op {
	case api.ELit:
		return setOf(e.Val.Kind)
	case api.EVar:
		if kind, _ := b.find(e.Name); kind != 0 {
			return setOf(api.KNull, kind)
		}
		return setOf(0, 1, 2, 3, 4, 5, 6)
	case api.EProp:
		return setOf(api.KNull, api.KBool, api.KInt, api.KCpx, api.KStr)
	case api.EUn:
		return bookUnary(e.Sub, kids[0])
	case api.EBin:
		return bookBinary(e.Sub, kids[0], kids[1])
	case api.ENull:
		if kids[0].none() {
			return set{}
		}
		return setOf(api.KBool)
	case api.ECall:
		return bookCall(e.Sub, kids)
	case api.EAgg:
		return bookAggregate(e.Sub, kids)
	case api.ECase:
		return bookCase(kids)
	}
	return bookIn(kids)
}

func bookIn(kids []set) (out set) {
	nulls, known := kids[0][api.KNull], false
	for _, kid := range kids {
		if kid.none() {
			return set{}
		}
	}
	if len(kids) == 1 {
		return setOf(api.KBool)
	}
	for _, kid := range kids[1:] {
		nulls = nulls || kid[api.KNull]
		known = known || kid.known()
	}
	out[api.KBool] = kids[0].known() && known
	out[api.KNull] = nulls
	return out
}

func bookCase(kids []set) (out set) {
	for len(kids) > 1 {
		condition, val := kids[0], kids[1]
		if !condition[api.KNull] && !condition[api.KBool] {
			return out
		}
		if condition[api.KBool] {
			out = out.with(val)
		}
		kids = kids[2:]
	}
	return out.with(kids[0])
}

func bookCoalesce(kids []set) (out set) {
	for _, kid := range kids {
		out = out.with(kid.without(api.KNull))
		if !kid[api.KNull] {
			return out
		}
	}
	return out.with(setOf(api.KNull))
}

func bookCall(sub int, kids []set) set {
	one := func(takes int, gives set) (out set) {
		if kids[0][takes] {
			out = gives
		}
		if kids[0][api.KNull] {
			out[api.KNull] = true
		}
		return out
	}
	switch sub {
	case api.FRe:
		return bookUnary(api.URe, kids[0])
	case api.FIm:
		return bookUnary(api.UIm, kids[0])
	case api.FConj:
		return bookUnary(api.UConj, kids[0])
	case api.FNorm:
		return bookUnary(api.UNorm, kids[0])
	case api.FLen:
		return bookUnary(api.ULen, kids[0])
	case api.FAbs:
		return bookUnary(api.UAbs, kids[0])
	case api.FCpx:
		return bookBinary(api.BCpx, kids[0], kids[1])
	case api.FLabel:
		return one(api.KNode, setOf(api.KStr))
	case api.FType:
		return one(api.KEdge, setOf(api.KStr))
	case api.FDeg:
		return one(api.KNode, setOf(api.KInt))
	case api.FCoalesce:
		return bookCoalesce(kids)
	}
	return bookWay(kids[0], kids[1])
}

// bookWay: each choice of two kinds.
func bookWay(from, to set) (out set) {
	for a, thereA := range from {
		for b, thereB := range to {
			switch {
			case !thereA || !thereB:
			case a == api.KNode && b == api.KNode:
				out = out.with(setOf(api.KInt, api.KNull))
			case a == api.KNode && b == api.KNull, a == api.KNull && b == api.KNode, a == api.KNull && b == api.KNull:
				out = out.with(setOf(api.KNull))
			}
		}
	}
	return out
}

func bookAggregate(sub int, kids []set) (out set) {
	var kid set
	if len(kids) > 0 {
		kid = kids[0]
	}
	switch sub {
	case api.GCount:
		return setOf(api.KInt)
	case api.GSum:
		out[api.KInt] = true
		out[api.KCpx] = kid[api.KCpx]
	case api.GMin, api.GMax:
		return kid.with(setOf(api.KNull))
	case api.GAvg:
		out[api.KNull] = true
		out[api.KInt] = kid[api.KInt]
		out[api.KCpx] = kid[api.KCpx]
	}
	return out
}

func (b *book) pairs(of []api.Pair) {
	met := map[string]bool{}
	for _, p := range of {
		must(!met[p.Key], api.ErrTwice)
		met[p.Key] = true
		b.check(p.Val, false)
	}
}

func (b *book) meet(name string, kind int) {
	if old, bound := b.find(name); bound {
		must(old == kind, api.ErrMix)
		return
	}
	b.bind(name, kind)
}

func (b *book) seek(p api.Path) {
	b.pairs(p.From.Props)
	b.meet(p.From.Var, api.KNode)
	for _, h := range p.Hops {
		must(!h.Star || h.Var == "", api.ErrPlace)
		b.pairs(h.Props)
		b.meet(h.Var, api.KEdge)
		b.pairs(h.To.Props)
		b.meet(h.To.Var, api.KNode)
	}
}

func (b *book) makeNode(n api.NodePat) {
	b.pairs(n.Props)
	if kind, bound := b.find(n.Var); bound {
		must(kind == api.KNode, api.ErrMix)
		must(n.Label == "" && len(n.Props) == 0, api.ErrTwice)
		return
	}
	must(n.Label != "", api.ErrName)
	b.bind(n.Var, api.KNode)
}

func (b *book) make(p api.Path) {
	b.makeNode(p.From)
	for _, h := range p.Hops {
		must(!h.Star && h.Dir != api.DBoth, api.ErrPlace)
		must(h.Type != "", api.ErrName)
		b.makeNode(h.To)
		b.pairs(h.Props)
		must(!b.bound(h.Var), api.ErrTwice)
		b.bind(h.Var, api.KEdge)
	}
}

func (b *book) act(a api.Action) {
	switch a.Kind {
	case api.ACreate:
		b.make(a.Path)
	case api.AMerge:
		n := a.Path.From
		b.pairs(n.Props)
		must(!b.bound(n.Var), api.ErrTwice)
		must(n.Label != "", api.ErrName)
		b.bind(n.Var, api.KNode)
	case api.AAbort:
		return
	default:
		kind, bound := b.find(a.Var)
		must(bound, api.ErrUnbound)
		must(kind != 0, api.ErrMix)
		if a.Kind == api.ASet {
			b.check(a.Val[0], false)
		}
	}
	b.writes = true
}

func (b *book) give(p api.Part, last bool) {
	b.cols = nil
	met := map[string]bool{}
	for _, i := range p.Items {
		b.check(i.Expr, true)
		b.aggregates = b.aggregates || bookHas(i.Expr)
		col := i.As
		if col == "" {
			text, code := syntax.PrintExpr(i.Expr)
			must(code == api.OK, code)
			col = text
		}
		must(!met[col], api.ErrTwice)
		met[col] = true
		b.cols = append(b.cols, col)
	}
	for _, k := range p.Order {
		must(k.Col <= len(p.Items), api.ErrUnbound)
		must(k.Col != 0 || met[k.Name], api.ErrUnbound)
	}
	if last {
		return
	}
	var next []api.Bound
	for n, i := range p.Items {
		kind := 0
		if i.Expr.Op == api.EVar {
			kind, _ = b.find(i.Expr.Name)
		}
		next = append(next, api.Bound{Name: b.cols[n], Kind: kind})
	}
	b.vars = next
	b.condition(p.Where)
}

// bookCheck: what Check must answer.
func bookCheck(q api.Query) (out api.Scope, code api.Errno) {
	if _, code := syntax.Print(q); code == api.ErrForm {
		return out, code
	}
	defer catch(&code)
	b := &book{}
	for i, p := range q.Parts {
		for _, m := range p.Match {
			for _, way := range m.Paths {
				b.seek(way)
			}
			b.condition(m.Where)
		}
		for _, a := range p.Actions {
			b.act(a)
		}
		b.give(p, i == len(q.Parts)-1)
	}
	return api.Scope{Vars: b.vars, Writes: b.writes, Aggregates: b.aggregates, Cols: b.cols}, api.OK
}

// bookKinds: what Kinds must answer.
func bookKinds(e api.Expr, vars []api.Bound) (out int, code api.Errno) {
	b := &book{}
	for _, v := range vars {
		if !value.Name(v.Name) || b.bound(v.Name) || v.Kind != 0 && v.Kind != api.KNode && v.Kind != api.KEdge {
			return 0, api.ErrArg
		}
		b.bind(v.Name, v.Kind)
	}
	if _, code := syntax.PrintExpr(e); code == api.ErrForm {
		return 0, code
	}
	defer catch(&code)
	b.names(e, true)
	return b.kinds(e).sum(), api.OK
}
