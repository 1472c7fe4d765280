package value_test

import (
	"bytes"
	"math"
	"slices"
	"strings"
	"testing"

	"trellis/api"
	"trellis/value"
)

// TestP101EveryCallEnds: all calls at all that the tests have, fitting or not; with an error all else is zero, and the same question has the same answer.
func TestP101EveryCallEnds(t *testing.T) {
	vs := append(values(), noValues()...)
	ops := []int{math.MinInt, -1, 0, 1, 2, 3, 4, 5, 6, 7, 8, 9, 10, 11, 12, 13, 14, 15, 16, 17, 18, 19, 20, math.MaxInt}
	for _, v := range vs {
		for _, op := range ops {
			w, code := value.Unary(op, v)
			w2, code2 := value.Unary(op, v)
			zeroWith(t, "Unary", code, w == null, w == w2 && code == code2)
			w, code = value.Fold(op, list(v, v))
			w2, code2 = value.Fold(op, list(v, v))
			zeroWith(t, "Fold", code, w == null, w == w2 && code == code2)
			for _, other := range []api.Val{null, yes, whole(0), whole(least), cpx(part, part), cpx(0, 0), str("a"), node(1), noValues()[0]} {
				w, code = value.Binary(op, v, other)
				w2, code2 = value.Binary(op, v, other)
				zeroWith(t, "Binary", code, w == null, w == w2 && code == code2)
			}
		}
		b, code := value.Encode(v)
		zeroWith(t, "Encode", code, len(b) == 0, true)
		c, code := value.ToComplex(v)
		zeroWith(t, "ToComplex", code, c == 0, true)
		k, code := value.KeyOf("a", "b", v, 1)
		zeroWith(t, "KeyOf", code, k == api.Key{}, true)
	}
}

func zeroWith(t *testing.T, call string, code api.Errno, zero, same bool) {
	t.Helper()
	if code != api.OK && !zero {
		t.Errorf("%s: code %d, and another result is not zero", call, code)
	}
	if !same {
		t.Errorf("%s: two answers to one question", call)
	}
}

// TestP101AnyTextAnyBytes: what was thrown together at random ends too, and is answered as it should be.
func TestP101AnyTextAnyBytes(t *testing.T) {
	r := dice()
	pieces := []string{"'", `\`, "x", "0", "1", "9", "-", "+", "i", "(", ")", "[", "]", "null", "true", "n", "\x00", "\xff", "é", " "}
	heads := []byte{0, 1, 2, 16, 17, 32, 48, 55, 56, 63, 64, 65, 66, 72, 73, 80, 97, 127, 128, 254, 255}
	for range 50000 {
		text, b := "", []byte(nil)
		for range r.IntN(8) {
			text += pieces[r.IntN(len(pieces))]
			b = append(b, heads[r.IntN(len(heads))])
		}
		tryNear(t, text)
		tryBytes(t, b)
		value.Name(text)
		value.Pack(text)
		value.Unpack(int64(r.Uint64()))
		value.FromComplex(complex(math.Float64frombits(r.Uint64()), math.Float64frombits(r.Uint64())))
	}
}

func TestP101BytesAreNewMemory(t *testing.T) {
	for _, v := range values() {
		one, _ := value.Encode(v)
		two, _ := value.Encode(v)
		// Its spare room too.
		one = one[:cap(one)]
		for i := range one {
			one[i] = 77
		}
		three, _ := value.Encode(v)
		if !bytes.Equal(two, wantBytes(v)) || !bytes.Equal(three, wantBytes(v)) {
			t.Errorf("Encode(%#v): written into one answer, read in another: %v, %v", v, two, three)
		}
	}
}

func TestP101ArgumentsStayAsTheyAre(t *testing.T) {
	vs := list(whole(3), null, cpx(1, 1), whole(9), whole(9))
	kept := slices.Clone(vs)
	for agg := range 8 {
		value.Fold(agg, vs[:3])
	}
	if !slices.Equal(vs, kept) {
		t.Errorf("Fold changed what it was given: %v", vs)
	}
	for _, v := range values() {
		b := append(wantBytes(v), 9, 9, 9)
		same := slices.Clone(b)
		w, _, _ := value.Decode(b[:len(b)-3])
		if !bytes.Equal(b, same) {
			t.Errorf("Decode changed what it was given: %v", b)
		}
		clear(b)
		if w != v {
			t.Errorf("Decode kept what it was given: %#v", w)
		}
	}
}

func TestP101LongArguments(t *testing.T) {
	long := strings.Repeat("9", 1<<20)
	for _, text := range []string{long, "-" + long, "'" + long, "'" + long + "'", "(" + long + ")", long + "i", long + "+" + long + "i", strings.Repeat(`\`, 1<<20), "'" + strings.Repeat(`\n`, 1<<20) + "'"} {
		if v, code := value.Scan(text); v != null || code != api.ErrText {
			t.Errorf("Scan of %d bytes = %#v, %d", len(text), v, code)
		}
	}
	if value.Valid(str(long)) || value.Name(long) || value.Print(str(long)) != "" {
		t.Error("a string of 2^20 bytes is taken")
	}
	if v, code := value.Fold(api.GSum, slices.Repeat(list(whole(3)), 1<<20)); v != whole(3<<20) || code != api.OK {
		t.Errorf("Fold of 2^20 numbers = %#v, %d", v, code)
	}
}
