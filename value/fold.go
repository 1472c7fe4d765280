package value

import "trellis/api"

// known: the values without the nulls; false, if one is no value.
func known(vs []api.Val) ([]item, bool) {
	var xs []item
	for _, v := range vs {
		x, ok := itemOf(v)
		if !ok {
			return nil, false
		}
		if !isNull(x) {
			xs = append(xs, x)
		}
	}
	return xs, true
}

// fold: agg is one of api.GCount to api.GAvg; no null is among xs.
func fold(agg int, xs []item) (item, api.Errno) {
	switch agg {
	case api.GCount:
		return whole(len(xs)), api.OK
	case api.GSum:
		return sum(xs)
	case api.GMin:
		return outermost(xs, -1), api.OK
	case api.GMax:
		return outermost(xs, 1), api.OK
	}
	return mean(xs)
}

// sum: kinds are looked at ahead of all adding, since ErrKind goes ahead of what the adding answers.
func sum(xs []item) (item, api.Errno) {
	for _, x := range xs {
		if _, code := x.number(); code == api.ErrKind {
			return nil, api.ErrKind
		}
	}
	var total item = whole(0)
	for _, x := range xs {
		next, code := arithmetic(api.BAdd, total, x)
		if code != api.OK {
			return nil, code
		}
		total = next
	}
	return total, api.OK
}

// outermost: the item that stands furthest on one side: -1: ahead, 1: behind.
func outermost(xs []item, side int) item {
	if len(xs) == 0 {
		return null{}
	}
	best := xs[0]
	for _, x := range xs[1:] {
		if compare(x, best) == side {
			best = x
		}
	}
	return best
}

func mean(xs []item) (item, api.Errno) {
	if len(xs) == 0 {
		return null{}, api.OK
	}
	total, code := sum(xs)
	if code != api.OK {
		return nil, code
	}
	return arithmetic(api.BDiv, total, whole(len(xs)))
}
