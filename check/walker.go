package check

import (
	"slices"

	"trellis/api"
	"trellis/syntax"
)

// walker: goes through a query in the order of its text.
type walker struct {
	scope      *scope
	writes     bool
	aggregates bool
	cols       []string // of the part that was gone through last
}

func (w *walker) part(p api.Part, last bool) error {
	if err := inOrder(p.Match, w.match); err != nil {
		return err
	}
	if err := inOrder(p.Actions, w.action); err != nil {
		return err
	}
	w.cols = nil
	if err := inOrder(p.Items, w.item); err != nil {
		return err
	}
	if err := inOrder(p.Order, w.key); err != nil {
		return err
	}
	if !last {
		w.scope = w.handedOn(p.Items)
	}
	return w.scope.condition(p.Where)
}

// inOrder: the first fault of the list.
func inOrder[T any](of []T, check func(one T) error) error {
	for _, one := range of {
		if err := check(one); err != nil {
			return err
		}
	}
	return nil
}

func (w *walker) match(m api.Match) error {
	if err := inOrder(m.Paths, w.soughtPath); err != nil {
		return err
	}
	return w.scope.condition(m.Where)
}

func (w *walker) action(a api.Action) error {
	w.writes = w.writes || a.Kind != api.AAbort
	switch a.Kind {
	case api.ACreate:
		return w.madePath(a.Path)
	case api.AMerge:
		return w.mergedNode(a.Path.From)
	case api.ASet, api.ARemove, api.ADelete:
		return w.change(a)
	}
	return nil
}

// change: of a property, or of all of a node or an edge. Val is empty but in a set.
func (w *walker) change(a api.Action) error {
	if !w.scope.has(a.Var) {
		return unbound(a.Var)
	}
	if w.scope.kindOf(a.Var) == 0 {
		return fault{api.ErrMix, "the variable " + a.Var + " may be neither a node nor an edge"}
	}
	return inOrder(a.Val, w.scope.check)
}

// item: a column, and its name.
func (w *walker) item(i api.Item) error {
	e := formOf(i.Expr)
	if _, err := w.scope.worth(e, true); err != nil {
		return err
	}
	w.aggregates = w.aggregates || hasAggregate(e)
	name, err := columnOf(i)
	if err != nil {
		return err
	}
	if slices.Contains(w.cols, name) {
		return fault{api.ErrTwice, "two columns of the name " + name}
	}
	w.cols = append(w.cols, name)
	return nil
}

// columnOf: the name that the item has, or else its text.
func columnOf(i api.Item) (string, error) {
	if i.As != "" {
		return i.As, nil
	}
	text, code := syntax.PrintExpr(i.Expr)
	return text, faultOf(code, "a column whose name is too long")
}

func (w *walker) key(k api.OrderKey) error {
	if k.Name != "" {
		return faultIf(!slices.Contains(w.cols, k.Name), api.ErrUnbound, "no column has the name "+k.Name)
	}
	return faultIf(k.Col > len(w.cols), api.ErrUnbound, "an order by a column that is not there")
}

// handedOn: the scope of the next part: the columns. What is a plain variable stands for the same there.
func (w *walker) handedOn(items []api.Item) *scope {
	next := newScope()
	for i, name := range w.cols {
		next.bind(name, w.scope.standsFor(formOf(items[i].Expr)))
	}
	return next
}
