package wire_test

import (
	"fmt"
	"slices"
	"testing"

	"trellis/api"
	"trellis/wire"
)

// pair: a reader, and one by the words.
type pair struct {
	r *wire.Reader
	w *wordsReader
}

func newPair() pair { return pair{wire.NewReader(), &wordsReader{}} }

// feed: both are fed b, and must give the same.
func (p pair) feed(t *testing.T, b []byte) {
	t.Helper()
	got, want := p.r.Feed(b), p.w.feed(b)
	gives(t, b, got, p.r.Left(), want, len(p.w.bytes))
}

func TestP1605ANewReader(t *testing.T) {
	r := wire.NewReader()
	same(t, "Left()", r.Left(), 0)
	feeds(t, r, nil, 0)
	feeds(t, r, bin(), 0)
	feeds(t, r, status(), 0, sound(9))
}

func TestP1605ReadersAreApart(t *testing.T) {
	a, b := wire.NewReader(), wire.NewReader()
	feeds(t, a, status()[:5], 5)
	feeds(t, b, bin('x'), 0, none('x'))
	feeds(t, a, status()[5:], 0, sound(9))
	feeds(t, b, status()[5:], 0) // lost still
}

func TestP1605AFrameByteByByte(t *testing.T) {
	for _, body := range [][]byte{nil, bin(0xA5, 0x5A, 9), make([]byte, 300)} {
		r, b := wire.NewReader(), frame(t, 77, body)
		for i := range len(b) - 1 {
			feeds(t, r, b[i:i+1], i+1)
		}
		feeds(t, r, b[len(b)-1:], 0, sound(77, body...))
	}
}

func TestP1605SeveralAtOnce(t *testing.T) {
	a, b, c := frame(t, 1, bin(1)), frame(t, 255, bin(2, 3)), status()
	feeds(t, wire.NewReader(), slices.Concat(a, b, c, a[:9]), 9, sound(1, 1), sound(255, 2, 3), sound(9))
}

func TestP1605TheFirstByteIsBad(t *testing.T) {
	for first := range 256 {
		r := wire.NewReader()
		if first == 0xA5 {
			feeds(t, r, bin(0xA5), 1)
			continue
		}
		feeds(t, r, bin(byte(first)), 0, none(byte(first)))
		feeds(t, r, bin(byte(first)), 0)
		feeds(t, r, status(), 0, sound(9))
	}
}

func TestP1605TheSecondByteIsBad(t *testing.T) {
	for second := range 256 {
		r := wire.NewReader()
		switch second {
		case 0x5A:
			feeds(t, r, bin(0xA5, 0x5A), 2)
		case 0xA5: // it may be the first of a frame
			feeds(t, r, bin(0xA5, 0xA5), 1, none(0xA5))
			feeds(t, r, status()[1:], 0, sound(9))
		default:
			feeds(t, r, bin(0xA5, byte(second)), 0, none(0xA5))
		}
	}
}

func TestP1605FewerThanEight(t *testing.T) {
	r := wire.NewReader()
	feeds(t, r, bin(0xA5, 0x5A, 0, 0xFF, 0xFF, 0xFF, 7), 7) // it is no head, but that is not looked at yet
	feeds(t, r, bin(7), 0, none(0xA5))
}

func TestP1605NoKindAndTooLong(t *testing.T) {
	for _, head := range [][]byte{wordsHead(0, 0), wordsHead(0, 5), wordsHead(9, api.MaxBody+1), wordsHead(255, 1<<24-1)} { // with sums that are right
		feeds(t, wire.NewReader(), head, 0, none(0xA5))
	}
	for _, head := range [][]byte{wordsHead(1, 0), wordsHead(9, api.MaxBody), wordsHead(255, api.MaxBody)} {
		feeds(t, wire.NewReader(), head, 8)
	}
}

func TestP1605TheHeadsSum(t *testing.T) {
	for _, head := range [][]byte{wordsHead(9, 0), wordsHead(255, 255), wordsHead(1, api.MaxBody), wordsHead(128, 0x1FFFFF)} {
		for at := 6; at < 8; at++ {
			for x := range 256 {
				b := slices.Clone(head)
				b[at] = byte(x)
				if b[at] == head[at] {
					feeds(t, wire.NewReader(), b, 8)
				} else {
					newPair().feed(t, b)
					same(t, "what is given first", wire.NewReader().Feed(b)[0], none(0xA5))
				}
			}
		}
	}
	zero := bin(0xA5, 0x5A, 255, 0, 0, 0, 0, 0) // the sum of 255 is 0, and not 255, which is as much as 0
	feeds(t, wire.NewReader(), zero, 8)
	zero[6], zero[7] = 255, 255
	feeds(t, wire.NewReader(), zero, 0, none(0xA5))
}

func TestP1605TheWholeSum(t *testing.T) {
	b := frame(t, 130, bin(1, 2, 0xA5))
	for at := len(b) - 4; at < len(b); at++ {
		for x := 1; x < 256; x++ {
			spoilt := slices.Clone(b)
			spoilt[at] += byte(x)
			feeds(t, wire.NewReader(), slices.Concat(spoilt, status()), 0, broken(spoilt), sound(9))
		}
	}
}

func TestP1605ABrokenFrameIsUsedUpWhole(t *testing.T) {
	b := frame(t, 130, status()) // what is in its body is not given
	b[8] ^= 1
	feeds(t, wire.NewReader(), slices.Concat(b, status()), 0, broken(b), sound(9))
}

func TestP1605InASpoiltHeadsBody(t *testing.T) {
	b := frame(t, 130, slices.Concat(bin(0xA5), status(), bin(0xA5, 0x5A)))
	b[2] ^= 1
	feeds(t, wire.NewReader(), slices.Concat(b, status()), 0, none(0xA5), sound(9), none(0xA5), sound(9)) // what is in it is
}

func TestP1605LostUntilAHead(t *testing.T) {
	r := wire.NewReader()
	feeds(t, r, []byte("abc"), 0, none('a'))
	feeds(t, r, bin(0xA5, 0x5A, 0, 0, 0, 0, 0, 0), 0)
	feeds(t, r, status()[:8], 8) // a head is enough to be lost no longer
	feeds(t, r, bin(0, 0, 0, 0), 0, broken(slices.Concat(status()[:8], make([]byte, 4))))
	feeds(t, r, []byte("de"), 0, none('d'))
	feeds(t, r, status(), 0, sound(9))
	feeds(t, r, []byte("fg"), 0, none('f'))
}

func TestP1605EveryShortStream(t *testing.T) {
	for n := range 8 {
		eachBody(n, bin(0xA5, 0x5A, 9), func(b []byte) {
			p := newPair()
			p.feed(t, b)
			p.feed(t, status())
			p.feed(t, status())
		})
	}
}

func TestP1605EveryHeadNearASoundOne(t *testing.T) {
	for _, head := range [][]byte{wordsHead(9, 0), wordsHead(1, 2), wordsHead(255, 1)} {
		for at := range head {
			for x := range 256 {
				b := slices.Concat(head, make([]byte, 6), status())
				b[at] = byte(x)
				newPair().feed(t, b)
			}
		}
	}
}

func TestP1605DrawnStreams(t *testing.T) {
	for seed := range int64(1500) {
		d, p := newDrawer(seed), newPair()
		for range 4 {
			p.feed(t, d.stream())
		}
	}
}

func TestP1605LongFrames(t *testing.T) {
	d, p := newDrawer(7), newPair()
	long := d.bytes(api.MaxBody)
	b := slices.Concat(wordsFrame(3, long), wordsFrame(4, long[:70000]), status())
	b[50] ^= 1
	for len(b) > 0 {
		n := min(len(b), 1+d.Intn(200000))
		p.feed(t, b[:n])
		b = b[n:]
	}
}

// inPieces: all that a new reader gives for these pieces, and how many bytes are left.
func inPieces(pieces [][]byte) ([]api.Frame, int) {
	r := wire.NewReader()
	var out []api.Frame
	for _, b := range pieces {
		out = append(out, r.Feed(b)...)
	}
	return out, r.Left()
}

func TestP1606EveryCutInTwo(t *testing.T) {
	for seed := range int64(150) {
		b := newDrawer(seed).stream()
		want, left := inPieces([][]byte{b})
		for i := range len(b) + 1 {
			got, n := inPieces([][]byte{b[:i], b[i:]})
			gives(t, b, got, n, want, left)
		}
	}
}

func TestP1606EveryCutInThree(t *testing.T) {
	spoilt := status()
	spoilt[9]++
	b := slices.Concat(bin(0xA5), status(), bin(0xA5, 0x5A, 0xA5), spoilt, bin(7), status()[:9])
	want, left := inPieces([][]byte{b})
	for i := range len(b) + 1 {
		for j := i; j <= len(b); j++ {
			got, n := inPieces([][]byte{b[:i], b[i:j], b[j:]})
			gives(t, b, got, n, want, left)
		}
	}
}

func TestP1606ByteByByteAndInDrawnPieces(t *testing.T) {
	for seed := range int64(1000) {
		d := newDrawer(seed)
		b := d.stream()
		want, left := inPieces([][]byte{b})
		for _, pieces := range [][][]byte{slices.Collect(slices.Chunk(b, 1)), d.cut(b), d.cut(b)} {
			got, n := inPieces(pieces)
			gives(t, b, got, n, want, left)
		}
	}
}

func TestP1606WhatIsLeftOnTheWay(t *testing.T) {
	for seed := range int64(100) {
		d := newDrawer(seed)
		b := d.stream()
		one := wire.NewReader()
		for i := range len(b) { // fed byte by byte, it has at each place what it has if all came at once
			one.Feed(b[i : i+1])
			_, left := inPieces([][]byte{b[:i+1]})
			same(t, fmt.Sprintf("Left() behind %s", hex(b[:i+1])), one.Left(), left)
		}
	}
}

func TestP1606TheLongestFrameByteByByte(t *testing.T) {
	body := newDrawer(8).bytes(api.MaxBody)
	r, b := wire.NewReader(), wordsFrame(140, body)
	for i := range len(b) - 1 {
		if given := r.Feed(b[i : i+1]); len(given) != 0 || r.Left() != i+1 {
			t.Fatalf("behind %d bytes: %d frames, %d left", i+1, len(given), r.Left())
		}
	}
	feeds(t, r, b[len(b)-1:], 0, sound(140, body...))
}
