package check

import "trellis/api"

// unaryKinds: the kinds of what the operation answers for values of these kinds. Null gives null, whatever the operation is.
func unaryKinds(op int, of kinds) kinds {
	null := of & nulls
	switch op {
	case api.UNot:
		return null | of&bools
	case api.UNeg, api.UConj:
		return null | of&numbers
	case api.ULen:
		return null | wholes.only(of.meets(strs))
	case api.UAbs:
		return null | of&wholes
	}
	return null | wholes.only(of.meets(numbers))
}

// binaryKinds: the kinds of what the operation answers for each choice of a kind from the one set and a kind from the other.
func binaryKinds(op int, left, right kinds) kinds {
	var out kinds
	for a := nulls; a <= left; a <<= 1 {
		for b := nulls; b <= right; b <<= 1 {
			out |= pairKinds(op, a, b).only(left.meets(a) && right.meets(b))
		}
	}
	return out
}

// pairKinds: the two sets have one kind each.
func pairKinds(op int, a, b kinds) kinds {
	switch {
	case op == api.BAnd || op == api.BOr || op == api.BXor:
		return logicKinds(op, a, b)
	case a == nulls || b == nulls:
		return nulls
	}
	switch op {
	case api.BAdd:
		return sumKinds(a, b) | strs.only(a == strs && b == strs)
	case api.BSub, api.BMul, api.BDiv, api.BMod:
		return sumKinds(a, b)
	case api.BEq, api.BNe:
		return bools
	case api.BLt, api.BLe, api.BGt, api.BGe:
		return orderKinds(a, b)
	case api.BCpx:
		return cpxs.only(a == wholes && b == wholes)
	}
	return bools.only(a == strs && b == strs)
}

// logicKinds: the one that is known may settle it, but for xor.
func logicKinds(op int, a, b kinds) kinds {
	both := a | b
	switch {
	case both&^(bools|nulls) != 0:
		return 0
	case both == bools|nulls && op == api.BXor:
		return nulls
	}
	return both
}

// sumKinds: a complex number takes the other one along.
func sumKinds(a, b kinds) kinds {
	both := a | b
	switch {
	case both&^numbers != 0:
		return 0
	case both.meets(cpxs):
		return cpxs
	}
	return wholes
}

// orderKinds: values of unlike kinds, complex numbers, nodes and edges have no order that is known.
func orderKinds(a, b kinds) kinds {
	if a == b && a.meets(wholes|strs|bools) {
		return bools
	}
	return nulls
}
