package locks_test

import (
	"testing"

	"trellis/api"
	"trellis/locks"
)

// fitting: who may hold beside whom, by the words of the chapter.
const fitting = "yyyy- yy--- y-y-- y---- -----"

// rights: what each mode lets its holder do (look at one part, write one part, look at all, write all): a mode is at least as strong as another one that lets do no more.
var rights = [...]int{api.MIS: 1, api.MIX: 1 | 2, api.MS: 1 | 4, api.MSIX: 1 | 2 | 4, api.MX: 1 | 2 | 4 | 8}

// joinOf: the weakest mode that lets do what both do, found by trying; 0: none.
func joinOf(a, b int) int {
	both := rights[a] | rights[b]
	for m := api.MIS; m <= api.MX; m++ {
		if both != 0 && rights[m]&both == both && (m == api.MX || rights[m] == both) {
			return m
		}
	}
	return 0
}

func isMode(m int) bool { return 1 <= m && m <= 5 }

// numbers: modes, 0, and what is neither.
var numbers = append([]int{1, 2, 3, 4, 5}, noModes...)

// TestP802Fits: as in the chapter's table; what is no mode fits nothing.
func TestP802Fits(t *testing.T) {
	for _, a := range numbers {
		for _, b := range numbers {
			want := isMode(a) && isMode(b) && fitting[6*(a-1)+b-1] == 'y'
			if got := locks.Fits(a, b); got != want {
				t.Errorf("Fits(%d, %d) = %v, want %v", a, b, got, want)
			}
		}
	}
}

// TestP802Joins: the weakest mode that is as strong as both; 0 is no mode, and weaker than all.
func TestP802Joins(t *testing.T) {
	for _, a := range numbers {
		for _, b := range numbers {
			want := 0
			if (a == 0 || isMode(a)) && (b == 0 || isMode(b)) {
				want = joinOf(a, b)
			}
			if got := locks.Joins(a, b); got != want {
				t.Errorf("Joins(%d, %d) = %d, want %d", a, b, got, want)
			}
		}
	}
}

// TestP802Words: the joins that the chapter names.
func TestP802Words(t *testing.T) {
	for m := api.MIS; m <= api.MX; m++ {
		same(t, "the joins of a mode", list(locks.Joins(m, m), locks.Joins(api.MIS, m), locks.Joins(m, api.MIS), locks.Joins(m, api.MX), locks.Joins(api.MX, m), locks.Joins(0, m), locks.Joins(m, 0)), list(m, m, m, api.MX, api.MX, m, m))
	}
	for _, c := range [][3]int{{api.MIX, api.MS, api.MSIX}, {api.MSIX, api.MIX, api.MSIX}, {api.MSIX, api.MS, api.MSIX}, {0, 0, 0}} {
		same(t, "the joins", list(locks.Joins(c[0], c[1]), locks.Joins(c[1], c[0])), list(c[2], c[2]))
	}
}
