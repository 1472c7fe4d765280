package rules

import (
	"trellis/api"
	"trellis/value"
)

// form: how a rule of one kind is said. Beside kind and of it has some of: key; type; from and to; n.
type form struct {
	word             string // the value of the property kind
	props            int    // how many properties there are
	key, is, ends, n bool
}

// forms: by the kind of the rule.
var forms = [...]form{
	api.RuUnique: {word: "unique", props: 3, key: true},
	api.RuNeeds:  {word: "needs", props: 3, key: true},
	api.RuOnly:   {word: "only", props: 4, key: true, is: true},
	api.RuLink:   {word: "link", props: 4, ends: true},
	api.RuMost:   {word: "most", props: 3, n: true},
	api.RuOrder:  {word: "order", props: 2},
}

// types: the values of the property type, by the kind of values that each stands for.
var types = [...]string{
	api.KBool: "bool",
	api.KInt:  "int",
	api.KCpx:  "complex",
	api.KStr:  "string",
}

// kindOf: the kind of the rules of that word; 0: there is none.
func kindOf(word string) int {
	for kind, f := range forms {
		if f.word == word {
			return kind
		}
	}
	return 0
}

// typeOf: the kind of values of that type; 0: there is none.
func typeOf(word string) int {
	for kind, t := range types {
		if t == word {
			return kind
		}
	}
	return 0
}

// said: the rule that the node says, if it says one.
func said(n api.Node) (api.Rule, bool) {
	r := api.Rule{Id: n.Id}
	for _, p := range n.Props {
		if !take(&r, p) {
			return api.Rule{}, false
		}
	}
	if !stands(r) || !forms[r.Kind].isAll(n.Props) {
		return api.Rule{}, false
	}
	return r, true
}

// take: a property of a node goes into the rule that it says; false: no rule has such a one.
func take(r *api.Rule, p api.Prop) bool {
	if p.Key == "n" {
		r.N = p.Val.A
		return p.Val.Kind == api.KInt
	}
	text := p.Val.S
	switch p.Key {
	case "kind":
		r.Kind = kindOf(text)
	case "of":
		r.Of = text
	case "key":
		r.Key = text
	case "type":
		r.Is = typeOf(text)
	case "from":
		r.From = text
	case "to":
		r.To = text
	default:
		return false
	}
	return p.Val.Kind == api.KStr
}

// isAll: are these just the properties that the form has? (A rule's fields do not tell one that is missing from one that is 0.)
func (f form) isAll(props []api.Prop) bool {
	_, wrong := first(props, func(p api.Prop) bool { return !f.has(p.Key) })
	return len(props) == f.props && !wrong
}

// has: has the form that property?
func (f form) has(key string) bool {
	switch key {
	case "key":
		return f.key
	case "type":
		return f.is
	case "from", "to":
		return f.ends
	case "n":
		return f.n
	}
	return true // kind and of: take has passed no other one
}

// stands: is the rule of one of the forms, whether a node says it or not?
func stands(r api.Rule) bool {
	if r.Kind < api.RuUnique || r.Kind > api.RuOrder {
		return false
	}
	f := forms[r.Kind]
	return value.Name(r.Of) &&
		fits(f.key, r.Key, value.Name) &&
		fits(f.is, r.Is, func(kind int) bool { return kind >= api.KBool && kind <= api.KStr }) &&
		fits(f.ends, r.From, value.Name) &&
		fits(f.ends, r.To, value.Name) &&
		fits(f.n, r.N, func(n int64) bool { return n >= 0 })
}

// fits: is a field as it must be, if the rule has it, and else zero?
func fits[T comparable](has bool, v T, is func(T) bool) bool {
	if has {
		return is(v)
	}
	var zero T
	return v == zero
}
