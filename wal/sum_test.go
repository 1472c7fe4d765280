package wal_test

import (
	"bytes"
	"hash/crc32"
	"math"
	"math/rand/v2"
	"testing"

	"trellis/wal"
)

func TestP302Known(t *testing.T) {
	for text, want := range map[string]uint32{"": 0, "\x00": 0xD202EF8D, "a": 0xE8B7BE43, "123456789": 0xCBF43926, "\xff\xff\xff\xff": 0xFFFFFFFF} {
		if got := wal.Sum([]byte(text)); got != want {
			t.Errorf("Sum(%q) = %#x, want %#x", text, got, want)
		}
	}
	if got := wal.Sum(nil); got != 0 {
		t.Errorf("Sum(nil) = %#x, want 0", got)
	}
}

// slow: the sum as the chapter says it, bit by bit.
func slow(b []byte) uint32 {
	register := uint32(0xFFFFFFFF)
	for _, x := range b {
		register ^= uint32(x)
		for range 8 {
			out := register & 1
			register >>= 1
			register ^= out * 0xEDB88320
		}
	}
	return register ^ 0xFFFFFFFF
}

func TestP302AgainstBitByBit(t *testing.T) {
	for x := range 256 {
		for y := range 256 {
			b := []byte{byte(x), byte(y)}
			if got := wal.Sum(b); got != slow(b) {
				t.Fatalf("Sum(% x) = %#x, want %#x", b, got, slow(b))
			}
		}
	}
	r := rand.New(rand.NewPCG(3, 2))
	for n := range 400 {
		b := make([]byte, n)
		for i := range b {
			b[i] = byte(r.IntN(256))
		}
		was := bytes.Clone(b)
		got := wal.Sum(b)
		if got != slow(b) || got != crc32.ChecksumIEEE(b) {
			t.Errorf("Sum(% x) = %#x, want %#x", b, got, slow(b))
		}
		if !bytes.Equal(was, b) {
			t.Errorf("Sum changes what is handed in")
		}
	}
}

func TestP303Need(t *testing.T) {
	for n := range maxBytes + 1 {
		want := 1
		for room := piece; room < n; room += piece {
			want++
		}
		if got := wal.Need(n); got != want {
			t.Fatalf("Need(%d) = %d, want %d", n, got, want)
		}
	}
	for _, n := range []int{-1, -2, -104, -105, math.MinInt, math.MinInt + 1, maxBytes + 1, maxBytes + 2, math.MaxInt32, math.MaxUint32 + 1, math.MaxInt, math.MaxInt - 103} {
		if got := wal.Need(n); got != 0 {
			t.Errorf("Need(%d) = %d, want 0", n, got)
		}
	}
}
