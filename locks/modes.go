package locks

import "trellis/api"

// modes: as many as there are, with 0, which is none.
const modes = api.MX + 1

// fits: by mode and mode: may two transactions hold these on one resource at once?
var fits = [modes][modes]bool{
	api.MIS:  {api.MIS: true, api.MIX: true, api.MS: true, api.MSIX: true},
	api.MIX:  {api.MIS: true, api.MIX: true},
	api.MS:   {api.MIS: true, api.MS: true},
	api.MSIX: {api.MIS: true},
	api.MX:   {},
}

// joins: by mode and mode (0: none): the weakest one that is at least as strong as both.
var joins = [modes][modes]int{
	0:        {0, api.MIS, api.MIX, api.MS, api.MSIX, api.MX},
	api.MIS:  {api.MIS, api.MIS, api.MIX, api.MS, api.MSIX, api.MX},
	api.MIX:  {api.MIX, api.MIX, api.MIX, api.MSIX, api.MSIX, api.MX},
	api.MS:   {api.MS, api.MS, api.MSIX, api.MS, api.MSIX, api.MX},
	api.MSIX: {api.MSIX, api.MSIX, api.MSIX, api.MSIX, api.MSIX, api.MX},
	api.MX:   {api.MX, api.MX, api.MX, api.MX, api.MX, api.MX},
}

func isMode(m int) bool { return m >= api.MIS && m <= api.MX }

// Fits: may two transactions hold a and b on one resource?
func Fits(a, b int) bool {
	return isMode(a) && isMode(b) && fits[a][b]
}

// Joins: the weakest mode that is at least as strong as a and b.
func Joins(a, b int) int {
	if a != 0 && !isMode(a) || b != 0 && !isMode(b) {
		return 0
	}
	return joins[a][b]
}
