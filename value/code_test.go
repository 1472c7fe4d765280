package value_test

import (
	"bytes"
	"math/big"
	"slices"
	"strings"
	"testing"

	"trellis/api"
	"trellis/value"
)

func TestP113Examples(t *testing.T) {
	for _, c := range []struct {
		v api.Val
		b []byte
	}{
		{whole(0), []byte{64, 0}}, {whole(1), []byte{65, 1, 0}}, {whole(255), []byte{65, 255, 0}}, {whole(256), []byte{66, 1, 0, 0}}, {whole(300), []byte{66, 1, 44, 0}}, {whole(65536), []byte{67, 1, 0, 0, 0}},
		{whole(-1), []byte{63, 254, 0}}, {whole(-255), []byte{63, 0, 0}}, {whole(-256), []byte{62, 254, 255, 0}}, {whole(most), []byte{72, 127, 255, 255, 255, 255, 255, 255, 255, 0}}, {whole(least), []byte{56, 127, 255, 255, 255, 255, 255, 255, 255, 0}}, {whole(1 << 56), []byte{72, 1, 0, 0, 0, 0, 0, 0, 0, 0}},
		{cpx(2, -1), []byte{65, 2, 1, 63, 254}}, {cpx(0, 0), []byte{64, 1, 64}}, {cpx(-1, 300), []byte{63, 254, 1, 66, 1, 44}}, {cpx(part, -part), []byte{68, 2, 0, 0, 0, 1, 60, 253, 255, 255, 255}},
		{str(""), []byte{32, 0, 0}}, {str("a"), []byte{32, 97, 0, 0}}, {str("\x00"), []byte{32, 0, 255, 0, 0}}, {str("a\x00b"), []byte{32, 97, 0, 255, 98, 0, 0}}, {str("é"), []byte{32, 195, 169, 0, 0}},
		{no, []byte{48, 0}}, {yes, []byte{48, 1}}, {node(7), []byte{16, 65, 7}}, {node(-256), []byte{16, 62, 254, 255}}, {edge(-1), []byte{17, 63, 254}}, {edge(300), []byte{17, 66, 1, 44}}, {null, []byte{80}},
	} {
		if b, code := value.Encode(c.v); !bytes.Equal(b, c.b) || code != api.OK {
			t.Errorf("Encode(%#v) = %v, %d, want %v", c.v, b, code, c.b)
		}
	}
}

// wantBytes: P113 once more, by numbers without bounds.
func wantBytes(v api.Val) []byte {
	switch v.Kind {
	case api.KNode:
		return append([]byte{16}, wantWholeBytes(v.A)...)
	case api.KEdge:
		return append([]byte{17}, wantWholeBytes(v.A)...)
	case api.KStr:
		return []byte("\x20" + strings.ReplaceAll(v.S, "\x00", "\x00\xff") + "\x00\x00")
	case api.KBool:
		return []byte{48, byte(v.A)}
	case api.KInt:
		return append(wantWholeBytes(v.A), 0)
	case api.KCpx:
		return append(append(wantWholeBytes(v.A), 1), wantWholeBytes(v.B)...)
	}
	return []byte{80}
}

func wantWholeBytes(n int64) []byte {
	m := big.NewInt(n)
	digits := m.Bytes()
	if m.Sign() >= 0 {
		return append([]byte{byte(64 + len(digits))}, digits...)
	}
	out := []byte{byte(64 - len(digits))}
	for _, x := range digits {
		out = append(out, 255-x)
	}
	return out
}

func TestP113AllValues(t *testing.T) {
	vs, r := values(), dice()
	for range 20000 {
		vs = append(vs, thrown(r))
	}
	for _, v := range vs {
		if b, code := value.Encode(v); !bytes.Equal(b, wantBytes(v)) || code != api.OK {
			t.Errorf("Encode(%#v) = %v, %d, want %v", v, b, code, wantBytes(v))
		}
	}
	for _, v := range noValues() {
		if b, code := value.Encode(v); len(b) != 0 || code != api.ErrVal {
			t.Errorf("Encode(%#v) = %v, %d", v, b, code)
		}
	}
}

func TestP113BytesStandAsValuesDo(t *testing.T) {
	vs := values()
	slices.SortFunc(vs, value.Compare)
	for i := 1; i < len(vs); i++ {
		a, _ := value.Encode(vs[i-1])
		b, _ := value.Encode(vs[i])
		// In this order a beginning stands just ahead of what begins with it.
		if bytes.Compare(a, b) >= 0 || bytes.HasPrefix(b, a) {
			t.Errorf("%#v and %#v: bytes %v and %v", vs[i-1], vs[i], a, b)
		}
	}
}

func TestP114Decode(t *testing.T) {
	vs, r := values(), dice()
	for range 5000 {
		vs = append(vs, thrown(r))
	}
	for _, v := range vs {
		b := wantBytes(v)
		for _, behind := range [][]byte{nil, {0}, {255}, {0, 0}, {9, 9}, {1, 65, 5}, {80}} {
			if w, n, code := value.Decode(append(slices.Clone(b), behind...)); w != v || n != len(b) || code != api.OK {
				t.Errorf("Decode(%v, %v) = %#v, %d, %d, want %#v", b, behind, w, n, code, v)
			}
		}
		for n := range b {
			noBytes(t, b[:n])
		}
	}
	if v, n, code := value.Decode([]byte{65, 5, 0, 9, 9}); v != whole(5) || n != 3 || code != api.OK {
		t.Errorf("Decode(65 5 0 9 9) = %#v, %d, %d", v, n, code)
	}
}

func noBytes(t *testing.T, b []byte) {
	t.Helper()
	if v, n, code := value.Decode(b); v != null || n != 0 || code != api.ErrBytes {
		t.Errorf("Decode(%v) = %#v, %d, %d", b, v, n, code)
	}
}

func TestP114NoBytes(t *testing.T) {
	for _, b := range [][]byte{
		nil, {}, {0}, {1}, {15, 65, 1}, {18, 65, 1}, {31, 0, 0}, {33, 0, 0}, {47, 0}, {49, 0}, {48}, {48, 2}, {48, 255}, {79}, {81}, {255},
		{65, 5}, {65, 5, 2}, {65, 5, 255}, {64, 2}, {64}, {65}, {66, 1}, {66, 0, 5, 0}, {65, 0, 0}, {63, 255, 0}, {62, 255, 254, 0}, {72, 0, 1, 1, 1, 1, 1, 1, 1, 0},
		{72, 128, 0, 0, 0, 0, 0, 0, 0, 0}, {72, 255, 255, 255, 255, 255, 255, 255, 255, 0}, {56, 127, 255, 255, 255, 255, 255, 255, 254, 0}, {56, 0, 0, 0, 0, 0, 0, 0, 0, 0}, {73, 1, 1, 1, 1, 1, 1, 1, 1, 1, 0}, {55, 1, 1, 1, 1, 1, 1, 1, 1, 1, 0}, {73, 0, 1, 1, 1, 1, 1, 1, 1, 1, 0},
		{64, 1}, {64, 1, 65}, {64, 1, 65, 0}, {64, 1, 63, 255}, {64, 1, 80}, {68, 2, 0, 0, 1, 1, 64}, {64, 1, 68, 2, 0, 0, 1}, {60, 253, 255, 255, 254, 1, 64}, {64, 1, 60, 253, 255, 255, 254}, {64, 1, 72, 127, 255, 255, 255, 255, 255, 255, 255},
		{16}, {16, 64}, {16, 64, 0}, {16, 65}, {16, 65, 0}, {16, 80}, {17}, {17, 64}, {17, 66, 0, 1},
		{32}, {32, 0}, {32, 97}, {32, 97, 0}, {32, 97, 0, 255}, {32, 97, 0, 255, 0}, {32, 0, 1, 0, 0}, {32, 0, 254, 0, 0}, {32, 255, 0, 0}, {32, 0xc3, 0, 0}, {32, 0xc0, 0x80, 0, 0}, {32, 0xed, 0xa0, 0x80, 0, 0},
		[]byte("\x20" + strings.Repeat("a", 33) + "\x00\x00"), []byte("\x20" + strings.Repeat("\x00\xff", 33) + "\x00\x00"), []byte("\x20" + strings.Repeat("a", 1<<16)),
	} {
		noBytes(t, b)
	}
}

// TestP114ShortBytes: of all bytes up to a length just those are taken that begin with the bytes of what is answered.
func TestP114ShortBytes(t *testing.T) {
	for x := range 256 {
		tryBytes(t, []byte{byte(x)})
		for y := range 256 {
			tryBytes(t, []byte{byte(x), byte(y)})
			for _, z := range []byte{0, 1, 2, 16, 63, 64, 65, 97, 254, 255} {
				tryBytes(t, []byte{byte(x), byte(y), z})
				tryBytes(t, []byte{byte(x), byte(y), z, 0, 0})
				tryBytes(t, []byte{byte(x), byte(y), z, 1, 64})
			}
		}
	}
}

func tryBytes(t *testing.T, b []byte) {
	t.Helper()
	v, n, code := value.Decode(b)
	if code == api.OK && value.Valid(v) && n <= len(b) && bytes.Equal(wantBytes(v), b[:n]) {
		return
	}
	if v != null || n != 0 || code != api.ErrBytes {
		t.Errorf("Decode(%v) = %#v, %d, %d", b, v, n, code)
	}
}
