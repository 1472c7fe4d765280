package wire_test

import (
	"slices"
	"testing"

	"trellis/api"
	"trellis/wire"
)

// turned: bytes of which one bit is turned.
func turned(b []byte, bit int) []byte {
	b = slices.Clone(b)
	b[bit/8] ^= 1 << (bit % 8)
	return b
}

// given: what whole frames give.
func given(frames [][]byte) []api.Frame {
	var out []api.Frame
	for _, b := range frames {
		out = append(out, sound(int(b[2]), b[8:len(b)-4]...))
	}
	return out
}

// turnsEach: turns each bit of one of the frames, in turn, and looks at what is given, whether all comes at once or in pieces.
func turnsEach(t *testing.T, d drawer, frames [][]byte, at int) {
	t.Helper()
	ahead, behind := given(frames[:at]), given(frames[at+1:])
	for bit := range 8 * len(frames[at]) {
		spoilt := turned(frames[at], bit)
		stream := slices.Concat(slices.Concat(frames[:at]...), spoilt, slices.Concat(frames[at+1:]...))
		for _, pieces := range [][][]byte{{stream}, d.cut(stream)} {
			got, left := inPieces(pieces)
			if bit >= 8*8 {
				gives(t, stream, got, left, slices.Concat(ahead, []api.Frame{broken(spoilt)}, behind), 0)
			} else {
				gives(t, stream, got[:min(len(got), at+1)], 0, append(slices.Clone(ahead), none(spoilt[0])), 0)
			}
		}
	}
}

func TestP1608EveryBitOfDrawnFrames(t *testing.T) {
	for seed := range int64(40) {
		d := newDrawer(seed)
		var frames [][]byte
		for len(frames) < 3 {
			if m := d.message(t); len(m.bytes) < 200 {
				frames = append(frames, m.bytes)
			}
		}
		turnsEach(t, d, frames, d.Intn(3))
	}
}

func TestP1608EveryBitOfFramesOfAnyKind(t *testing.T) {
	d := newDrawer(10)
	for _, kind := range []int{1, 2, 127, 128, 254, 255} {
		for _, body := range [][]byte{nil, bin(0), bin(255), bin(0xA5, 0x5A), make([]byte, 20), status()} {
			frames := [][]byte{status(), frame(t, kind, body), frame(t, 255, bin(1))}
			for at := range frames {
				turnsEach(t, d, frames, at)
			}
		}
	}
}

func TestP1608AFrameAlone(t *testing.T) {
	turnsEach(t, newDrawer(11), [][]byte{status()}, 0)
	turnsEach(t, newDrawer(11), [][]byte{frame(t, 140, newDrawer(12).bytes(300))}, 0)
}

func TestP1608BitsOfTheLongestFrame(t *testing.T) {
	long := frame(t, 3, newDrawer(13).bytes(api.MaxBody))
	for _, bit := range []int{8 * 8, 8 * 1000, 8*api.MaxBody + 1, 8*len(long) - 32, 8*len(long) - 1} {
		spoilt := turned(long, bit)
		feeds(t, wire.NewReader(), slices.Concat(status(), spoilt, status()), 0, sound(9), broken(spoilt), sound(9))
	}
}

// garbage: n bytes, of which none is 0xA5.
func (d drawer) garbage(n int) []byte {
	out := make([]byte, n)
	for i := range out {
		out[i] = byte(d.Intn(255))
		if out[i] >= 0xA5 {
			out[i]++
		}
		if d.Intn(4) == 0 {
			out[i] = 0x5A
		}
	}
	return out
}

func TestP1609DrawnGarbage(t *testing.T) {
	for seed := range int64(600) {
		d := newDrawer(seed)
		b := d.garbage(1 + d.Intn(60))
		feeds(t, wire.NewReader(), b, 0, none(b[0]))
		frames := [][]byte{d.message(t).bytes, d.message(t).bytes}
		stream := slices.Concat(b, frames[0], frames[1])
		got, left := inPieces(d.cut(stream))
		gives(t, stream, got, left, slices.Concat([]api.Frame{none(b[0])}, given(frames)), 0)
	}
}

func TestP1609InManyPieces(t *testing.T) {
	r, b := wire.NewReader(), newDrawer(14).garbage(5000)
	feeds(t, r, b[:1], 0, none(b[0]))
	for i := 1; i < len(b); i++ {
		feeds(t, r, b[i:i+1], 0)
	}
	feeds(t, r, slices.Concat(status(), status()), 0, sound(9), sound(9))
}

func TestP1609MuchGarbage(t *testing.T) {
	b := newDrawer(15).garbage(1 << 22)
	feeds(t, wire.NewReader(), slices.Concat(b, status()), 0, none(b[0]), sound(9))
}

func TestP1609EveryFirstByte(t *testing.T) {
	for first := range 256 {
		if first != 0xA5 {
			feeds(t, wire.NewReader(), bin(byte(first), 0x5A, 9, 0, 0, 0), 0, none(byte(first)))
		}
	}
}

func TestP1609BehindAFrameToo(t *testing.T) {
	r := wire.NewReader()
	feeds(t, r, status(), 0, sound(9))
	feeds(t, r, []byte("garbage"), 0, none('g'))
	feeds(t, r, status(), 0, sound(9))
	feeds(t, r, []byte("more of it"), 0, none('m')) // once for each place
}
