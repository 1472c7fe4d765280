package index_test

import (
	"testing"

	"trellis/api"
)

// TestExamples: those of the chapter, in its order.
func TestExamples(t *testing.T) {
	b := batch(t, 20)
	has(t, b, K(1), false)
	counts(t, b, 0, 0)
	scans(t, b, low, high, 10)
	undeleted(t, b, 1, api.ErrAbsent)

	inserts(t, b, 1, 2, 3, 4)
	grows(t, b, "1[1 2 3 4]")
	counts(t, b, 4, 1)
	inserts(t, b, 5)
	grows(t, b, "3[4](1[1 2 3] 2[4 5])")
	counts(t, b, 5, 2)

	deletes(t, b, 4)
	grows(t, b, "3[3](1[1 2] 2[3 5])")

	deletes(t, b, 1)
	grows(t, b, "1[2 3 5]")
	counts(t, b, 3, 1)

	scans(t, b, K(0), K(5), 10, K(2), K(3))
	scans(t, b, K(3), K(200), 1, K(3))
	scans(t, b, K(5), K(5), 10)

	b = batch(t, 4)
	inserts(t, b, 1, 2, 3, 4)
	uninserted(t, b, 5, api.ErrIndexFull)
}
