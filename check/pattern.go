package check

import "trellis/api"

func (w *walker) soughtPath(p api.Path) error {
	if err := w.soughtNode(p.From); err != nil {
		return err
	}
	return inOrder(p.Hops, w.soughtHop)
}

func (w *walker) soughtNode(n api.NodePat) error {
	if err := w.pairs(n.Props); err != nil {
		return err
	}
	return w.sought(n.Var, api.KNode)
}

func (w *walker) soughtHop(h api.HopPat) error {
	if h.Star && h.Var != "" {
		return fault{api.ErrPlace, "the variable " + h.Var + " for a hop of many edges"}
	}
	if err := w.pairs(h.Props); err != nil {
		return err
	}
	if err := w.sought(h.Var, api.KEdge); err != nil {
		return err
	}
	return w.soughtNode(h.To)
}

// sought: the variable of a pattern that is sought, which may have none: it is met again as what it stands for already, or bound.
func (w *walker) sought(name string, kind int) error {
	if w.scope.has(name) {
		return w.standing(name, kind)
	}
	w.scope.bindIfAny(name, kind)
	return nil
}

// standing: a bound variable must stand for what is meant.
func (w *walker) standing(name string, kind int) error {
	return faultIf(w.scope.kindOf(name) != kind, api.ErrMix, "the variable "+name+" stands for something else")
}

// pairs: each key once, with an expression that makes sense.
func (w *walker) pairs(of []api.Pair) error {
	for i, p := range of {
		for _, earlier := range of[:i] {
			if earlier.Key == p.Key {
				return fault{api.ErrTwice, "two pairs of the key " + p.Key}
			}
		}
		if err := w.scope.check(p.Val); err != nil {
			return err
		}
	}
	return nil
}

func (w *walker) madePath(p api.Path) error {
	if err := w.madeNode(p.From); err != nil {
		return err
	}
	return inOrder(p.Hops, w.madeHop)
}

// madeNode: one that is bound is there already: then there is nothing more to be said of it.
func (w *walker) madeNode(n api.NodePat) error {
	if err := w.pairs(n.Props); err != nil {
		return err
	}
	if !w.scope.has(n.Var) {
		return w.newNode(n)
	}
	if err := w.standing(n.Var, api.KNode); err != nil {
		return err
	}
	return faultIf(n.Label != "" || len(n.Props) > 0, api.ErrTwice, "the variable "+n.Var+" is bound, and cannot be made")
}

// newNode: it needs a label, and is bound.
func (w *walker) newNode(n api.NodePat) error {
	if n.Label == "" {
		return fault{api.ErrName, "a node without a label cannot be made"}
	}
	w.scope.bindIfAny(n.Var, api.KNode)
	return nil
}

// madeHop: an edge is made behind both its nodes.
func (w *walker) madeHop(h api.HopPat) error {
	if h.Star || h.Dir == api.DBoth {
		return fault{api.ErrPlace, "a hop that is no single edge with a direction cannot be made"}
	}
	if h.Type == "" {
		return fault{api.ErrName, "an edge without a type cannot be made"}
	}
	if err := w.madeNode(h.To); err != nil {
		return err
	}
	if err := w.pairs(h.Props); err != nil {
		return err
	}
	if err := w.free(h.Var); err != nil {
		return err
	}
	w.scope.bindIfAny(h.Var, api.KEdge)
	return nil
}

// mergedNode: found or made, it is one that nothing has bound.
func (w *walker) mergedNode(n api.NodePat) error {
	if err := w.pairs(n.Props); err != nil {
		return err
	}
	if err := w.free(n.Var); err != nil {
		return err
	}
	return w.newNode(n)
}

// free: a variable that is to be bound here must not be bound already.
func (w *walker) free(name string) error {
	return faultIf(w.scope.has(name), api.ErrTwice, "the variable "+name+" is bound already")
}
