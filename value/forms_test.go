package value_test

import (
	"strings"
	"testing"

	"trellis/api"
	"trellis/value"
)

func TestP102ValuesAreValid(t *testing.T) {
	for _, v := range values() {
		if !value.Valid(v) {
			t.Errorf("Valid(%#v) = false", v)
		}
		want := v.Kind == api.KBool || v.Kind == api.KInt || v.Kind == api.KCpx || v.Kind == api.KStr
		if value.Storable(v) != want {
			t.Errorf("Storable(%#v) = %v", v, !want)
		}
	}
}

func TestP102WhatIsNoValue(t *testing.T) {
	for _, v := range noValues() {
		if value.Valid(v) {
			t.Errorf("Valid(%#v) = true", v)
		}
		if value.Storable(v) {
			t.Errorf("Storable(%#v) = true", v)
		}
	}
}

func TestP102StringsByTheirForm(t *testing.T) {
	for n := range 40 {
		if got := value.Valid(str(strings.Repeat("x", n))); got != (n <= 32) {
			t.Errorf("a string of %d bytes: Valid = %v", n, got)
		}
	}
	for b := range 256 {
		if got := value.Valid(str(string([]byte{byte(b)}))); got != (b < 128) {
			t.Errorf("the byte %d alone: Valid = %v", b, got)
		}
	}
}

func TestP102Names(t *testing.T) {
	for s, want := range map[string]bool{"": false, "a": true, "z": true, "a0": true, "z9z9z9z9": true, "abcdefgh": true, "abcdefghi": false, "a2345678": true, "a23456789": false, "9": false, "0a": false, "A": false, "aB": false, "a_b": false, "a b": false, " a": false, "a ": false, "é": false, "aé": false, "a\x00": false, "\x00": false, "abcdefgH": false, "abcdefg\xff": false} {
		if value.Name(s) != want {
			t.Errorf("Name(%q) = %v", s, !want)
		}
	}
	for b := range 256 {
		small, digit := b >= 'a' && b <= 'z', b >= '0' && b <= '9'
		if got := value.Name(string([]byte{byte(b)})); got != small {
			t.Errorf("Name of the byte %d = %v", b, got)
		}
		for _, behind := range []string{"", "bcdefg"} {
			if got := value.Name("a" + behind + string([]byte{byte(b)})); got != (small || digit) {
				t.Errorf("Name of a%s and the byte %d = %v", behind, b, got)
			}
		}
	}
	if value.Name(strings.Repeat("a", 1<<16)) {
		t.Error("Name of 65536 letters = true")
	}
}
