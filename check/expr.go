package check

import "trellis/api"

// place: where in an expression the walk is, and what may stand there.
type place struct {
	scope   *scope
	allowed bool // may aggregates stand in the expression?
	beside  bool // has the whole expression one somewhere?
	inside  bool // is the walk inside of one?
}

// walk: the first fault of the expression's names and places; not of its kinds.
func (s *scope) walk(e form, aggregates bool) error {
	return place{scope: s, allowed: aggregates, beside: hasAggregate(e)}.walk(e)
}

// worth: the kinds of the expression, if it makes sense, and can have a value at all.
func (s *scope) worth(e form, aggregates bool) (kinds, error) {
	if err := s.walk(e, aggregates); err != nil {
		return 0, err
	}
	k := s.kindsOf(e)
	return k, faultIf(k == 0, api.ErrKind, "an expression that no values fit")
}

// check: does the expression, without aggregates, make sense?
func (s *scope) check(e api.Expr) error {
	_, err := s.worth(formOf(e), false)
	return err
}

// condition: does each of them, none or one, make sense as a condition?
func (s *scope) condition(where []api.Expr) error {
	for _, e := range where {
		k, err := s.worth(formOf(e), false)
		if err != nil {
			return err
		}
		if !k.isCondition() {
			return fault{api.ErrKind, "a condition that is neither a bool nor null"}
		}
	}
	return nil
}

func hasAggregate(e form) bool {
	if _, is := e.(aggregate); is {
		return true
	}
	for _, kid := range e.kids() {
		if hasAggregate(kid) {
			return true
		}
	}
	return false
}

// walk: each one ahead of its kids, these from left to right.
func (p place) walk(e form) error {
	if err := p.fits(e); err != nil {
		return err
	}
	if _, is := e.(aggregate); is {
		p.inside = true
	}
	for _, kid := range e.kids() {
		if err := p.walk(kid); err != nil {
			return err
		}
	}
	return nil
}

// fits: can the expression stand here, whatever its kids are?
func (p place) fits(e form) error {
	switch x := e.(type) {
	case variable:
		return p.fitsName(x.name)
	case property:
		return p.fitsName(x.name)
	case asking:
		return p.fitsAsking(x)
	case aggregate:
		return faultIf(!p.allowed || p.inside, api.ErrPlace, "an aggregate where none can stand")
	}
	return nil
}

// fitsName: beside an aggregate there is no single row of which the variable could tell.
func (p place) fitsName(name string) error {
	if !p.scope.has(name) {
		return unbound(name)
	}
	return faultIf(p.beside && !p.inside, api.ErrPlace, "the variable "+name+" beside an aggregate")
}

// fitsAsking: a variable that is known to stand for the other thing cannot be asked of.
func (p place) fitsAsking(x asking) error {
	for _, kid := range x.of {
		kind := p.scope.standsFor(kid)
		if kind != 0 && kind != x.about {
			return fault{api.ErrMix, "a call that asks a node of an edge, or an edge of a node"}
		}
	}
	return nil
}

func unbound(name string) error {
	return fault{api.ErrUnbound, "nothing binds the variable " + name}
}
