package check

import (
	"slices"

	"trellis/api"
)

// kinds: a set of kinds of values: the sum of 1 << kind.
type kinds int

const (
	nulls   kinds = 1 << api.KNull
	bools   kinds = 1 << api.KBool
	wholes  kinds = 1 << api.KInt
	cpxs    kinds = 1 << api.KCpx
	strs    kinds = 1 << api.KStr
	numbers       = wholes | cpxs
	stored        = bools | numbers | strs
	every         = nulls | stored | 1<<api.KNode | 1<<api.KEdge
)

// meets: has the set a kind of the other one?
func (k kinds) meets(other kinds) bool { return k&other != 0 }

// isCondition: can what is of one of these kinds be true, false or not known?
func (k kinds) isCondition() bool { return k.meets(nulls | bools) }

// only: the set, if the condition holds; else none.
func (k kinds) only(holds bool) kinds {
	if holds {
		return k
	}
	return 0
}

// kindsOf: the kinds of the expression, whose variables are all in the scope.
func (s *scope) kindsOf(e form) kinds {
	switch x := e.(type) {
	case literal:
		return 1 << x.kind
	case variable:
		return kindsOfVariable(s.kindOf(x.name))
	case property:
		return nulls | stored
	case unary:
		return unaryKinds(x.op, s.kindsOf(x.of))
	case binary:
		return binaryKinds(x.op, s.kindsOf(x.left), s.kindsOf(x.right))
	case nullTest:
		return bools.only(s.kindsOf(x.of) != 0)
	case membership:
		return membershipKinds(s.kindsOfAll(x.all))
	case firstKnown:
		return firstKnownKinds(s.kindsOfAll(x.all))
	case choice:
		return choiceKinds(s.kindsOfAll(x.all))
	case asking:
		return askingKinds(x.question, s.kindsOfAll(x.of))
	case aggregate:
		return aggregateKinds(x.sub, s.kindsOfAll(x.of))
	}
	return 0 // there is no other form
}

func (s *scope) kindsOfAll(of []form) []kinds {
	out := make([]kinds, 0, len(of))
	for _, e := range of {
		out = append(out, s.kindsOf(e))
	}
	return out
}

// kindsOfVariable: an optional match may leave null in the place of a node or an edge.
func kindsOfVariable(kind int) kinds {
	if kind == 0 {
		return every
	}
	return nulls | 1<<kind
}

// membershipKinds: the first one is sought among the others. With none to be compared with, nothing is unknown.
func membershipKinds(of []kinds) kinds {
	if slices.Contains(of, 0) {
		return 0
	}
	if len(of) == 1 {
		return bools
	}
	var elements kinds
	for _, k := range of[1:] {
		elements |= k
	}
	known := of[0].meets(every&^nulls) && elements.meets(every&^nulls)
	return bools.only(known) | nulls.only((of[0] | elements).meets(nulls))
}

func firstKnownKinds(of []kinds) kinds {
	var out kinds
	for _, k := range of {
		out |= k &^ nulls
		if !k.meets(nulls) {
			return out
		}
	}
	return out | nulls
}

func choiceKinds(of []kinds) kinds {
	var out kinds
	last := len(of) - 1
	for i := 0; i < last; i += 2 {
		if !of[i].isCondition() {
			return out
		}
		out |= of[i+1].only(of[i].meets(bools))
	}
	return out | of[last]
}

// askingKinds: null, where one that is asked of is null and the others can be asked of.
func askingKinds(q question, of []kinds) kinds {
	about, null := true, false
	for _, k := range of {
		if !k.meets(nulls | 1<<q.about) {
			return 0
		}
		about = about && k.meets(1<<q.about)
		null = null || k.meets(nulls)
	}
	return q.gives.only(about) | nulls.only(null)
}

// aggregateKinds: also of no rows at all; so the kid may have no kinds.
func aggregateKinds(sub int, of []kinds) kinds {
	var kid kinds
	for _, k := range of {
		kid |= k
	}
	switch sub {
	case api.GCount:
		return wholes
	case api.GSum:
		return wholes | kid&cpxs
	case api.GAvg:
		return nulls | kid&numbers
	}
	return nulls | kid
}
