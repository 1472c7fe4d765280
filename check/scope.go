package check

import (
	"trellis/api"
	"trellis/value"
)

// scope: the variables that are bound at some place, in the order in which they were bound; and, by their names, the kinds of what they stand for.
type scope struct {
	vars  []api.Bound
	kinds map[string]int
}

func newScope() *scope { return &scope{kinds: map[string]int{}} }

// scopeOf: the scope that a caller hands in.
func scopeOf(vars []api.Bound) (*scope, error) {
	s := newScope()
	for _, v := range vars {
		if !value.Name(v.Name) || s.has(v.Name) || v.Kind != 0 && v.Kind != api.KNode && v.Kind != api.KEdge {
			return nil, fault{api.ErrArg, "a list that is no list of variables"}
		}
		s.bind(v.Name, v.Kind)
	}
	return s, nil
}

func (s *scope) bind(name string, kind int) {
	s.vars = append(s.vars, api.Bound{Name: name, Kind: kind})
	s.kinds[name] = kind
}

// bindIfAny: where a pattern may do without a variable.
func (s *scope) bindIfAny(name string, kind int) {
	if name != "" {
		s.bind(name, kind)
	}
}

// has: is the variable bound? The empty name, which a pattern without a variable has, never is.
func (s *scope) has(name string) bool {
	_, there := s.kinds[name]
	return there
}

// kindOf: what the variable stands for; 0 also where it is not bound.
func (s *scope) kindOf(name string) int { return s.kinds[name] }

// standsFor: what the variable stands for, where the expression is a plain variable; else 0, as for any value.
func (s *scope) standsFor(e form) int {
	v, plain := e.(variable)
	if !plain {
		return 0
	}
	return s.kindOf(v.name)
}
