package wire_test

import (
	"fmt"
	"math"
	"testing"

	"trellis/api"
	"trellis/wire"
)

func TestP1602EveryKind(t *testing.T) {
	for kind := -2; kind <= 258; kind++ {
		for _, body := range [][]byte{nil, bin(7), bin(0xA5, 0x5A, 0)} {
			b, code := wire.Frame(kind, body)
			what := fmt.Sprintf("Frame(%d, % x)", kind, body)
			if kind < 1 || kind > 255 {
				same(t, what, []any{b, code}, []any{bin(), api.ErrType})
				continue
			}
			same(t, what, code, api.OK)
			sameBytes(t, what, b, wordsFrame(kind, body))
		}
	}
}

func TestP1602FarKinds(t *testing.T) {
	for _, kind := range []int{math.MinInt, math.MinInt + 9, -256, -247, 256, 265, 1<<32 + 9, math.MaxInt} {
		b, code := wire.Frame(kind, bin(1))
		same(t, fmt.Sprintf("Frame(%d)", kind), []any{b, code}, []any{bin(), api.ErrType})
	}
}

func TestP1602Lengths(t *testing.T) {
	d := newDrawer(1)
	for _, n := range []int{0, 1, 2, 254, 255, 256, 257, 5551, 5552, 5553, 65535, 65536, 65537, 1 << 20, api.MaxBody - 1, api.MaxBody} {
		body := d.bytes(n)
		sameBytes(t, fmt.Sprintf("a frame with %d bytes", n), frame(t, 200, body), wordsFrame(200, body))
	}
}

func TestP1602TheSumsAreTaken(t *testing.T) {
	full := make([]byte, 70000) // sums that go round again and again
	for i := range full {
		full[i] = 255
	}
	for _, n := range []int{1, 255, 256, 257, 258, 65521, 65522, 70000} {
		sameBytes(t, fmt.Sprintf("a frame with %d times 255", n), frame(t, 255, full[:n]), wordsFrame(255, full[:n]))
	}
}

func TestP1602TooLong(t *testing.T) {
	for _, n := range []int{api.MaxBody + 1, api.MaxBody + 2, 1 << 22, 1 << 24, 1<<24 + 1} { // three bytes do not tell the last two
		b, code := wire.Frame(9, make([]byte, n))
		same(t, fmt.Sprintf("Frame(9, %d bytes)", n), []any{len(b), code}, []any{0, api.ErrBody})
	}
}

func TestP1602TheKindIsLookedAtFirst(t *testing.T) {
	for _, kind := range []int{0, 256} {
		b, code := wire.Frame(kind, make([]byte, api.MaxBody+1))
		same(t, "Frame", []any{len(b), code}, []any{0, api.ErrType})
	}
}

func TestP1602DrawnFrames(t *testing.T) {
	d := newDrawer(2)
	for range 3000 {
		kind, body := 1+d.Intn(255), d.bytes(d.Intn(600))
		sameBytes(t, fmt.Sprintf("Frame(%d, %s)", kind, hex(body)), frame(t, kind, body), wordsFrame(kind, body))
	}
}
