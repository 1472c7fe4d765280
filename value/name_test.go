package value_test

import (
	"bytes"
	"math"
	"slices"
	"strings"
	"testing"

	"trellis/api"
	"trellis/value"
)

const nameBytes = "0123456789abcdefghijklmnopqrstuvwxyz"

// wantPack: a name's counts as digits to the base 37.
func wantPack(name string) int64 {
	n := int64(0)
	for i := range 8 {
		n *= 37
		if i < len(name) {
			n += int64(strings.IndexByte(nameBytes, name[i])) + 1
		}
	}
	return n
}

// names: all of one and two bytes, and some longer ones.
func names() []string {
	ns := []string{"abcdefgh", "zzzzzzzz", "a0000000", "knows", "city", "name", "pop", "a9z0", "abc", "abcd", "abcde", "abcdef", "abcdefg"}
	for _, a := range nameBytes[10:] {
		ns = append(ns, string(a))
		for _, b := range nameBytes {
			ns = append(ns, string(a)+string(b))
		}
	}
	return ns
}

func TestP116PackAndUnpack(t *testing.T) {
	for _, s := range names() {
		if n, code := value.Pack(s); n != wantPack(s) || code != api.OK {
			t.Errorf("Pack(%q) = %d, %d, want %d", s, n, code, wantPack(s))
		}
		if u, code := value.Unpack(wantPack(s)); u != s || code != api.OK {
			t.Errorf("Unpack(%d) = %q, %d, want %q", wantPack(s), u, code, s)
		}
	}
	for s, want := range map[string]int64{"a": 1044250648463, "b": 1139182525596, "knows": 2056943768784, "z9": 3443204840878, "zzzzzzzz": 3512479453920} {
		if n, code := value.Pack(s); n != want || code != api.OK {
			t.Errorf("Pack(%q) = %d, %d, want %d", s, n, code, want)
		}
	}
}

func TestP116NumbersStandAsNamesDo(t *testing.T) {
	ns := names()
	slices.Sort(ns)
	for i := 1; i < len(ns); i++ {
		a, _ := value.Pack(ns[i-1])
		b, _ := value.Pack(ns[i])
		if a >= b || b >= 1<<42 {
			t.Errorf("Pack(%q) = %d, Pack(%q) = %d", ns[i-1], a, ns[i], b)
		}
	}
}

func TestP116NoNames(t *testing.T) {
	for _, s := range []string{"", "A", "1a", "0", "abcdefghi", "a_", "a b", "é", "a\x00", "aB", strings.Repeat("a", 1000)} {
		if n, code := value.Pack(s); n != 0 || code != api.ErrName {
			t.Errorf("Pack(%q) = %d, %d", s, n, code)
		}
	}
}

func TestP116NumbersOfNoName(t *testing.T) {
	a := wantPack("a")
	beyond := int64(3512479453921) // 37 to the power 8
	for _, n := range []int64{0, 1, 11, 36, 37, -1, -a, least, least + 1, most, beyond, beyond + a, 2*beyond + a, a + 1, a + 36, a + 37, a + 37*37*37*37*37, wantPack("ab") + 1, a - 1, wantPack("0"), wantPack("9z"), wantPack("00000000")} {
		if s, code := value.Unpack(n); s != "" || code != api.ErrArg {
			t.Errorf("Unpack(%d) = %q, %d", n, s, code)
		}
	}
	for step := range int64(200000) {
		n := a - 1000 + step*17569201
		if s, code := value.Unpack(n); code == api.OK && (!value.Name(s) || wantPack(s) != n) || code != api.OK && (s != "" || code != api.ErrArg) {
			t.Fatalf("Unpack(%d) = %q, %d", n, s, code)
		}
	}
}

func TestP117Example(t *testing.T) {
	want := api.Key{0, 243, 34, 48, 95, 143, 1, 9, 60, 145, 220, 156, 65, 5, 0, 0, 0, 0, 0, 0, 0, 0, 0, 7}
	if k, code := value.KeyOf("a", "b", whole(5), 7); k != want || code != api.OK {
		t.Errorf("KeyOf(a, b, 5, 7) = %v, %d", k, code)
	}
}

// wantKey: the four parts of a key, laid behind one another.
func wantKey(label, key string, v api.Val, id int64) api.Key {
	var b []byte
	for _, n := range []int64{wantPack(label), wantPack(key)} {
		for shift := 40; shift >= 0; shift -= 8 {
			b = append(b, byte(n>>shift))
		}
	}
	b = append(b, append(wantBytes(v), make([]byte, 8)...)[:8]...)
	b = append(b, byte(id>>24), byte(id>>16), byte(id>>8), byte(id))
	return api.Key(b)
}

func TestP117AllValues(t *testing.T) {
	for _, v := range values() {
		if v.Kind == api.KNull || v.Kind == api.KNode || v.Kind == api.KEdge {
			continue
		}
		for _, id := range []int64{1, 255, 256, 0x01020304, math.MaxUint32} {
			for _, name := range []string{"a", "city", "zzzzzzzz", "abcdefgh"} {
				if k, code := value.KeyOf(name, "pop", v, id); k != wantKey(name, "pop", v, id) || code != api.OK {
					t.Errorf("KeyOf(%q, pop, %#v, %d) = %v, %d", name, v, id, k, code)
				}
				if k, code := value.KeyOf("city", name, v, id); k != wantKey("city", name, v, id) || code != api.OK {
					t.Errorf("KeyOf(city, %q, %#v, %d) = %v, %d", name, v, id, k, code)
				}
			}
		}
	}
}

func TestP117KeysStandAsValuesDo(t *testing.T) {
	vs := []api.Val{str(""), str("a"), str("ab"), no, yes, whole(least), whole(-1), whole(0), cpx(0, 1), whole(1), whole(most)}
	var last api.Key
	for _, v := range vs {
		for _, id := range []int64{1, 2, 256, math.MaxUint32} {
			k, code := value.KeyOf("city", "pop", v, id)
			if code != api.OK || bytes.Compare(last[:], k[:]) >= 0 {
				t.Errorf("the key of %#v, %d: %v, %d, behind %v", v, id, k, code, last)
			}
			last = k
		}
	}
}

func TestP117OrderOfErrors(t *testing.T) {
	bad := noValues()[0]
	for _, c := range []struct {
		label, key string
		v          api.Val
		id         int64
		code       api.Errno
	}{
		{"A", "b", bad, 0, api.ErrName}, {"a", "", bad, 0, api.ErrName}, {"", "b", whole(1), 1, api.ErrName}, {"abcdefghi", "b", whole(1), 1, api.ErrName}, {"a", "9", whole(1), 1, api.ErrName},
		{"a", "b", bad, 0, api.ErrVal}, {"a", "b", bad, 1, api.ErrVal}, {"a", "b", node(0), 1, api.ErrVal},
		{"a", "b", null, 0, api.ErrKind}, {"a", "b", null, 1, api.ErrKind}, {"a", "b", node(1), 1, api.ErrKind}, {"a", "b", edge(1), 0, api.ErrKind},
		{"a", "b", whole(1), 0, api.ErrArg}, {"a", "b", whole(1), -1, api.ErrArg}, {"a", "b", whole(1), least, api.ErrArg}, {"a", "b", whole(1), 1 << 32, api.ErrArg}, {"a", "b", whole(1), most, api.ErrArg}, {"a", "b", str(""), 1<<32 + 1, api.ErrArg},
	} {
		if k, code := value.KeyOf(c.label, c.key, c.v, c.id); k != (api.Key{}) || code != c.code {
			t.Errorf("KeyOf(%q, %q, %#v, %d) = %v, %d, want %d", c.label, c.key, c.v, c.id, k, code, c.code)
		}
	}
}
