package syntax_test

import (
	"math"
	"math/rand"
	"reflect"
	"strconv"
	"strings"

	"trellis/api"
	"trellis/value"
)

// draw: draws trees that have the form, and texts of them.
type draw struct {
	*rand.Rand
}

func newDraw(seed int64) draw { return draw{rand.New(rand.NewSource(seed))} }

func pick[T any](d draw, of ...T) T { return of[d.Intn(len(of))] }

// some: so many drawn elements, least at least.
func some[T any](d draw, least, most int, one func() T) []T {
	n := least + d.Intn(most-least+1)
	if d.Intn(3) > 0 {
		n = least + d.Intn(min(3, most-least+1))
	}
	var out []T
	for range n {
		out = append(out, one())
	}
	return out
}

func (d draw) name() string {
	return pick(d, "a", "b", "c", "n1", "k", "re", "count", "dist", "x2345678", "matches", "i")
}

func (d draw) maybeName() string { return pick(d, "", d.name()) }

func (d draw) literal() api.Expr {
	return val(pick(d,
		api.Val{}, api.Val{Kind: api.KBool}, api.Val{Kind: api.KBool, A: 1},
		api.Val{Kind: api.KInt, A: int64(d.Intn(9) - 4)}, api.Val{Kind: api.KInt, A: math.MinInt64}, api.Val{Kind: api.KInt, A: math.MaxInt64},
		api.Val{Kind: api.KCpx, B: int64(d.Intn(9) - 4)}, api.Val{Kind: api.KCpx, B: api.MaxPart}, api.Val{Kind: api.KCpx, B: -api.MaxPart},
		api.Val{Kind: api.KStr}, api.Val{Kind: api.KStr, S: "it's \\ \n\x01 é"}, api.Val{Kind: api.KStr, S: "match (a) // '"}, api.Val{Kind: api.KStr, S: strings.Repeat("z", 32)},
	))
}

// expr: an expression of that depth at most.
func (d draw) expr(depth int) api.Expr {
	if depth <= 1 || d.Intn(4) == 0 {
		switch d.Intn(4) {
		case 0:
			return name(d.name())
		case 1:
			return prop(d.name(), d.name())
		case 2:
			return agg(api.GCount, false)
		}
		return d.literal()
	}
	kid := func() api.Expr { return d.expr(depth - 1) }
	switch d.Intn(10) {
	case 0, 1:
		return un(pick(d, api.UNeg, api.UNot), kid())
	case 2, 3, 4, 5:
		return bin(pick(d, api.BAdd, api.BSub, api.BMul, api.BDiv, api.BMod, api.BEq, api.BNe, api.BLt, api.BLe, api.BGt, api.BGe, api.BAnd, api.BOr, api.BXor, api.BStar, api.BEnds, api.BHas), kid(), kid())
	case 6:
		return isNull(1+d.Intn(2), kid())
	case 7:
		return in(some(d, 1, api.MaxArgs, kid)...)
	case 8:
		kids := []api.Expr{kid()}
		for range 1 + d.Intn(4) {
			kids = append(kids, kid(), kid())
		}
		return cases(kids...)
	}
	return d.called(kid)
}

// called: a function or an aggregate of kids.
func (d draw) called(kid func() api.Expr) api.Expr {
	switch d.Intn(7) {
	case 0:
		return call(pick(d, api.FRe, api.FIm, api.FConj, api.FNorm, api.FLen, api.FAbs, api.FLabel, api.FType), kid())
	case 1:
		return call(api.FCpx, kid(), kid())
	case 2:
		return call(api.FCoalesce, some(d, 1, api.MaxArgs, kid)...)
	case 3:
		return named(call(api.FDeg, kid()), d.maybeName(), "")
	case 4:
		return named(call(api.FHops, kid(), kid()), d.maybeName(), "")
	case 5:
		return named(call(api.FDist, kid(), kid()), d.name(), d.name())
	}
	return agg(1+d.Intn(5), d.Intn(2) == 0, kid())
}

func (d draw) pair() api.Pair { return pair(d.name(), d.expr(3)) }

func (d draw) node() api.NodePat {
	return node(d.maybeName(), d.maybeName(), some(d, 0, pick(d, 0, 0, api.MaxProps), d.pair)...)
}

func (d draw) hop() api.HopPat {
	h := hop(d.maybeName(), d.maybeName(), 1+d.Intn(3), d.node(), some(d, 0, pick(d, 0, 0, api.MaxProps), d.pair)...)
	if d.Intn(2) == 0 {
		least := 1 + d.Intn(5)
		h = star(h, least, least+d.Intn(6-least))
	}
	return h
}

func (d draw) path() api.Path { return path(d.node(), some(d, 0, api.MaxHops, d.hop)...) }

func (d draw) where() []api.Expr {
	return some(d, 0, 1, func() api.Expr { return d.expr(1 + d.Intn(5)) })
}

func (d draw) match() api.Match {
	return api.Match{Optional: d.Intn(2) == 0, Paths: some(d, 1, api.MaxPaths, d.path), Where: d.where()}
}

func (d draw) action() api.Action {
	switch d.Intn(6) {
	case 0:
		return api.Action{Kind: api.ACreate, Path: d.path()}
	case 1:
		return api.Action{Kind: api.AMerge, Path: path(d.node())}
	case 2:
		return api.Action{Kind: api.ASet, Var: d.name(), Key: d.name(), Val: []api.Expr{d.expr(4)}}
	case 3:
		return api.Action{Kind: api.ARemove, Var: d.name(), Key: d.name()}
	case 4:
		return api.Action{Kind: api.ADelete, Var: d.name(), Detach: d.Intn(2) == 0}
	}
	return abort()
}

func (d draw) key() api.OrderKey {
	if d.Intn(2) == 0 {
		return api.OrderKey{Name: d.name(), Desc: d.Intn(2) == 0}
	}
	return api.OrderKey{Col: 1 + d.Intn(12), Desc: d.Intn(2) == 0}
}

func (d draw) item(with bool) api.Item {
	e := d.expr(1 + d.Intn(4))
	if with && e.Op != api.EVar {
		return item(e, d.name())
	}
	return item(e, d.maybeName())
}

func (d draw) part(last bool) api.Part {
	p := part(some(d, 0, pick(d, 1, 1, api.MaxMatch), d.match), some(d, 0, pick(d, 1, 2, api.MaxActions), d.action)...)
	if last && len(p.Actions) > 0 && d.Intn(2) == 0 {
		return p
	}
	p = gives(p, some(d, 1, pick(d, 1, 2, api.MaxItems), func() api.Item { return d.item(!last) })...)
	p.Once = d.Intn(3) == 0
	p.Order = some(d, 0, pick(d, 0, 0, api.MaxItems), d.key)
	p.Skip, p.Limit = pick(d, -1, 0, 7, math.MaxInt64), pick(d, -1, 0, 7, math.MaxInt64)
	if !last {
		p.Where = d.where()
	}
	return p
}

func (d draw) query() api.Query {
	var q api.Query
	for range pick(d, 0, 0, 0, 1, 2, 3) {
		q.Parts = append(q.Parts, d.part(false))
	}
	q.Parts = append(q.Parts, d.part(true))
	return q
}

// Texts: the tokens of a tree, one of the many ways in which it can be written. Trees without the form have some text too, which is then none of theirs.

type texts struct {
	draw
	out []string
}

func (x *texts) say(tokens ...string) {
	for _, token := range tokens {
		if token != "" {
			x.out = append(x.out, token)
		}
	}
}

// row: each one, with commas between.
func (x *texts) row(n int, one func(i int)) {
	for i := range n {
		if i > 0 {
			x.say(",")
		}
		one(i)
	}
}

// between: how the operator is written.
func between(sub int) string {
	return map[int]string{api.BAdd: "+", api.BSub: "-", api.BMul: "*", api.BDiv: "/", api.BMod: "%", api.BEq: "=", api.BNe: "<>", api.BLt: "<", api.BLe: "<=", api.BGt: ">", api.BGe: ">=", api.BAnd: "and", api.BOr: "or", api.BXor: "xor", api.BStar: "starts with", api.BEnds: "ends with", api.BHas: "contains"}[sub]
}

var callNames = strings.Fields("? re im conj norm len abs cpx label type deg dist hops coalesce")
var aggNames = strings.Fields("? count sum min max avg")

// nameAt: the name of that number, or something that is none.
func nameAt(names []string, sub int) string {
	if sub < 0 || sub >= len(names) {
		return "?"
	}
	return names[sub]
}

// expr: in brackets wherever that is allowed, so that no rank counts; literals below 0 and variables now and then without.
func (x *texts) expr(e api.Expr) {
	x.say("(")
	x.bare(e)
	x.say(")")
}

// kid: that which has the number, or something that is none.
func (x *texts) kid(e api.Expr, i int) {
	if i >= len(e.Kids) {
		x.say("?")
		return
	}
	x.expr(e.Kids[i])
}

func (x *texts) bare(e api.Expr) {
	switch e.Op {
	case api.ELit:
		x.literal(e.Val)
	case api.EVar:
		x.say(e.Name)
	case api.EProp:
		x.say(e.Name, ".", e.Key)
	case api.EUn:
		x.say(map[int]string{api.UNeg: "-", api.UNot: "not"}[e.Sub])
		x.kid(e, 0)
	case api.EBin:
		x.kid(e, 0)
		x.say(between(e.Sub))
		x.kid(e, 1)
	case api.ENull:
		x.kid(e, 0)
		x.say(map[int]string{1: "is null", 2: "is not null"}[e.Sub])
	case api.EIn:
		x.kid(e, 0)
		x.say("in", "[")
		x.row(len(e.Kids)-1, func(i int) { x.expr(e.Kids[i+1]) })
		x.say("]")
	case api.ECase:
		x.cases(e)
	case api.ECall:
		x.say(nameAt(callNames, e.Sub), "(")
		x.row(len(e.Kids), func(i int) { x.expr(e.Kids[i]) })
		if e.Name != "" {
			x.say(",", e.Name)
		}
		if e.Key != "" {
			x.say(",", e.Key)
		}
		x.say(")")
	case api.EAgg:
		x.agg(e)
	default:
		x.say("?")
	}
}

func (x *texts) agg(e api.Expr) {
	x.say(nameAt(aggNames, e.Sub), "(")
	if e.Once {
		x.say("distinct")
	}
	if len(e.Kids) == 0 {
		x.say("*", ")")
		return
	}
	x.expr(e.Kids[0])
	x.say(")")
}

func (x *texts) cases(e api.Expr) {
	x.say("case")
	last := len(e.Kids) - 1
	for i := 0; i+1 <= last; i += 2 {
		x.say("when")
		x.expr(e.Kids[i])
		x.say("then")
		x.expr(e.Kids[i+1])
	}
	switch {
	case last < 0:
		x.say("?")
	case !alike(e.Kids[last], null()) || x.Intn(2) == 0:
		x.say("else")
		x.expr(e.Kids[last])
	}
	x.say("end")
}

// literal: of a complex number the second part alone.
func (x *texts) literal(v api.Val) {
	text := value.Print(v)
	if v.Kind == api.KCpx && v.A == 0 && text != "" {
		text = strings.TrimPrefix(text[1:], "+")
	}
	x.say(text)
}

func (x *texts) program(qs []api.Query) {
	for i, q := range qs {
		if i > 0 {
			x.say(";")
		}
		x.query(q)
	}
	if x.Intn(2) == 0 {
		x.say(";")
	}
}

func (x *texts) query(q api.Query) {
	for i, p := range q.Parts {
		x.part(p, i == len(q.Parts)-1)
	}
}

func (x *texts) part(p api.Part, last bool) {
	for _, m := range p.Match {
		if m.Optional {
			x.say("optional")
		}
		x.say("match")
		x.row(len(m.Paths), func(i int) { x.path(m.Paths[i]) })
		x.where(m.Where)
	}
	x.actions(p.Actions)
	if !p.Gives {
		return
	}
	if last {
		x.say("return")
	} else {
		x.say("with")
	}
	if p.Once {
		x.say("distinct")
	}
	x.row(len(p.Items), func(i int) {
		x.expr(p.Items[i].Expr)
		if p.Items[i].As != "" {
			x.say("as", p.Items[i].As)
		}
	})
	if len(p.Order) > 0 {
		x.say("order", "by")
		x.row(len(p.Order), func(i int) { x.key(p.Order[i]) })
	}
	if p.Skip != -1 {
		x.say("skip", strconv.Itoa(p.Skip))
	}
	if p.Limit != -1 {
		x.say("limit", strconv.Itoa(p.Limit))
	}
	x.where(p.Where)
}

func (x *texts) key(k api.OrderKey) {
	if k.Name != "" {
		x.say(k.Name)
	} else {
		x.say(strconv.Itoa(k.Col))
	}
	if k.Desc {
		x.say("desc")
	} else {
		x.say(pick(x.draw, "", "asc"))
	}
}

func (x *texts) where(where []api.Expr) {
	for _, e := range where {
		x.say("where")
		x.expr(e)
	}
}

// actions: those of the same word behind one word, now and then.
func (x *texts) actions(as []api.Action) {
	word := ""
	for i, a := range as {
		own := nameAt([]string{"?", "create", "merge", "set", "remove", "delete", "abort"}, a.Kind)
		if a.Kind == api.ADelete && a.Detach {
			own = "detach delete"
		}
		if i > 0 && own == word && own != "abort" && x.Intn(2) == 0 {
			x.say(",")
		} else {
			x.say(own)
		}
		word = own
		switch a.Kind {
		case api.ACreate:
			x.path(a.Path)
		case api.AMerge:
			x.node(a.Path.From)
		case api.ASet:
			x.say(a.Var, ".", a.Key, "=")
			for _, e := range a.Val {
				x.expr(e)
			}
		case api.ARemove:
			x.say(a.Var, ".", a.Key)
		case api.ADelete:
			x.say(a.Var)
		}
	}
}

func (x *texts) path(p api.Path) {
	x.node(p.From)
	for _, h := range p.Hops {
		x.hop(h)
	}
}

func (x *texts) node(n api.NodePat) {
	x.say("(", n.Var)
	if n.Label != "" {
		x.say(":", n.Label)
	}
	x.props(n.Props)
	x.say(")")
}

func (x *texts) hop(h api.HopPat) {
	if h.Dir == api.DIn {
		x.say("<")
	}
	x.say("-")
	if h.Var != "" || h.Type != "" || h.Star || len(h.Props) > 0 || x.Intn(2) == 0 {
		x.say("[", h.Var)
		if h.Type != "" {
			x.say(":", h.Type)
		}
		if h.Star {
			x.leap(h)
		}
		x.props(h.Props)
		x.say("]")
	}
	x.say("-")
	if h.Dir == api.DOut {
		x.say(">")
	}
	x.node(h.To)
}

// leap: one of the ways in which the lengths can be written.
func (x *texts) leap(h api.HopPat) {
	least, most := strconv.Itoa(h.Min), strconv.Itoa(h.Max)
	ways := []string{least + " .. " + most}
	if h.Min == h.Max {
		ways = append(ways, least)
	}
	if h.Min == 1 {
		ways = append(ways, ".. "+most)
	}
	if h.Max == 5 {
		ways = append(ways, least+" ..")
	}
	if h.Min == 1 && h.Max == 5 {
		ways = append(ways, "", "..")
	}
	x.say("*", pick(x.draw, ways...))
}

func (x *texts) props(props []api.Pair) {
	if len(props) == 0 {
		x.say(pick(x.draw, "", "", "{ }"))
		return
	}
	x.say("{")
	x.row(len(props), func(i int) {
		x.say(props[i].Key, ":")
		x.expr(props[i].Val)
	})
	x.say("}")
}

// text: a text of the tree, with drawn blanks and comments between its tokens.
func (d draw) text(tree any) string {
	x := &texts{draw: d}
	switch tree := tree.(type) {
	case api.Expr:
		x.bare(tree)
	case api.Query:
		x.query(tree)
	case []api.Query:
		x.program(tree)
	}
	return d.laidOut(x.out)
}

// laidOut: the tokens, with drawn blanks and comments between and around.
func (d draw) laidOut(tokens []string) string {
	var b strings.Builder
	gap := func() {
		if strings.HasSuffix(b.String(), "/") { // it would become a comment's
			b.WriteString(" ")
		}
		b.WriteString(pick(d, " ", " ", " ", "\n", "\t\r", "//\n", " // a ' é \n"))
	}
	for _, token := range tokens {
		gap()
		b.WriteString(token)
	}
	gap()
	return b.String()
}

// spoil: changes one field, or one list, somewhere in what the pointer points to.
func (d draw) spoil(tree any) {
	var places []reflect.Value
	var walk func(v reflect.Value)
	walk = func(v reflect.Value) {
		switch v.Kind() {
		case reflect.Struct:
			for i := range v.NumField() {
				walk(v.Field(i))
			}
			return
		case reflect.Slice:
			for i := range v.Len() {
				walk(v.Index(i))
			}
		}
		places = append(places, v)
	}
	walk(reflect.ValueOf(tree).Elem())
	d.change(places[d.Intn(len(places))])
}

func (d draw) change(v reflect.Value) {
	switch v.Kind() {
	case reflect.Int, reflect.Int64:
		v.SetInt(pick(d, v.Int()+1, v.Int()-1, int64(d.Intn(20)), -1, 0, math.MaxInt64, math.MinInt64))
	case reflect.String:
		v.SetString(pick(d, "", "a", "match", "A", "abcdefgh", "abcdefghi", "1a", "a b", strings.Repeat("é", 17), "\xff", "'"))
	case reflect.Bool:
		v.SetBool(!v.Bool())
	case reflect.Slice:
		d.changeList(v)
	}
}

// changeList: one less, one more (the first again, or a zero one), or many more. The elements are copied, so that no list of another tree changes.
func (d draw) changeList(v reflect.Value) {
	list := reflect.MakeSlice(v.Type(), 0, v.Len()+1)
	list = reflect.AppendSlice(list, v)
	one := reflect.Zero(v.Type().Elem())
	if v.Len() > 0 && d.Intn(3) > 0 {
		one = v.Index(0)
	}
	switch {
	case v.Len() > 0 && d.Intn(2) == 0:
		list = list.Slice(0, v.Len()-1)
	default:
		for range pick(d, 1, 1, 1, 2, 3, 16) {
			list = reflect.Append(list, one)
		}
	}
	v.Set(list)
}
