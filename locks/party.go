package locks

import (
	"slices"

	"trellis/api"
)

// party: a live transaction.
type party struct {
	stamp    int64
	held     map[api.Res]int // the modes that it holds
	at       api.Res         // where its request stands
	goal     int             // the mode that it asks for; 0: it has no request
	wounders map[int]struct{}
}

// places: where it holds or asks for something, in the order of resources.
func (p *party) places() []api.Res {
	var out []api.Res
	for r := range p.held {
		out = append(out, r)
	}
	if p.goal != 0 && p.held[p.at] == 0 {
		out = append(out, p.at)
	}
	slices.SortFunc(out, inOrder)
	return out
}

func (p *party) isWounded() bool { return len(p.wounders) > 0 }

// wound: one more has wounded it: is this its first wound?
func (p *party) wound(by int) bool {
	first := !p.isWounded()
	p.wounders[by] = struct{}{}
	return first
}
