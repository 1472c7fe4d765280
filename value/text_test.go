package value_test

import (
	"strconv"
	"strings"
	"testing"

	"trellis/api"
	"trellis/value"
)

func TestP111Literals(t *testing.T) {
	for _, c := range []struct {
		v    api.Val
		text string
	}{
		{null, "null"}, {no, "false"}, {yes, "true"},
		{whole(0), "0"}, {whole(7), "7"}, {whole(-7), "-7"}, {whole(100), "100"}, {whole(most), "9223372036854775807"}, {whole(least), "-9223372036854775808"},
		{cpx(3, 4), "3+4i"}, {cpx(-2, -1), "-2-1i"}, {cpx(0, 0), "0+0i"}, {cpx(0, -1), "0-1i"}, {cpx(-part, part), "-33554432+33554432i"}, {cpx(part, -part), "33554432-33554432i"},
		{str(""), "''"}, {str("a"), "'a'"}, {str("a'\n\x00"), `'a\'\n\x00'`}, {str("\\"), `'\\'`}, {str("\t\r\n"), `'\t\r\n'`}, {str("\x01\x1f\x7f \x0b"), `'\x01\x1f\x7f \x0b'`}, {str("é😀\u0080\ufffd"), "'é😀\u0080\ufffd'"}, {str(`"`), `'"'`},
		{node(7), "(7)"}, {node(-7), "(-7)"}, {node(least), "(-9223372036854775808)"}, {edge(7), "[7]"}, {edge(-7), "[-7]"}, {edge(most), "[9223372036854775807]"},
	} {
		if text := value.Print(c.v); text != c.text {
			t.Errorf("Print(%#v) = %q, want %q", c.v, text, c.text)
		}
		if v, code := value.Scan(c.text); v != c.v || code != api.OK {
			t.Errorf("Scan(%q) = %#v, %d, want %#v", c.text, v, code, c.v)
		}
	}
}

// wantEscape: how a byte below 128 stands between the quotes.
func wantEscape(b byte) string {
	switch {
	case b == '\\' || b == '\'':
		return `\` + string(rune(b))
	case b == 10:
		return `\n`
	case b == 9:
		return `\t`
	case b == 13:
		return `\r`
	case b < 16:
		return `\x0` + strconv.FormatInt(int64(b), 16)
	case b < 32 || b == 127:
		return `\x` + strconv.FormatInt(int64(b), 16)
	}
	return string(rune(b))
}

func TestP111EachByte(t *testing.T) {
	for b := range byte(128) {
		v, want := str("k"+string(rune(b))+"é"), "'k"+wantEscape(b)+"é'"
		if text := value.Print(v); text != want {
			t.Errorf("Print of the byte %d: %q, want %q", b, text, want)
		}
		if w, code := value.Scan(want); w != v || code != api.OK {
			t.Errorf("Scan(%q) = %#v, %d", want, w, code)
		}
	}
}

func TestP111NoValueHasNoLiteral(t *testing.T) {
	for _, v := range noValues() {
		if text := value.Print(v); text != "" {
			t.Errorf("Print(%#v) = %q", v, text)
		}
	}
}

func TestP112BackAndForth(t *testing.T) {
	vs, r := values(), dice()
	for range 20000 {
		vs = append(vs, thrown(r))
	}
	for _, v := range vs {
		text := value.Print(v)
		if w, code := value.Scan(text); w != v || code != api.OK {
			t.Errorf("Scan(Print(%#v)) = %#v, %d", v, w, code)
		}
	}
}

func TestP112NoLiterals(t *testing.T) {
	for _, text := range []string{
		"", " ", "+1", "01", "-0", "-01", "00", "--1", "- 1", "+-1", "-", "+", " 1", "1 ", "1\n", "1_0", "0x1", "1e3", "1.0", "١",
		"9223372036854775808", "-9223372036854775809", "99999999999999999999999999", "18446744073709551615",
		"3+4", "4i", "-4i", "i", "-i", "+i", "3+i", "3-i", "3+-4i", "3--4i", "3++4i", "3-0i", "-0+0i", "+3+4i", "03+4i", "3+04i", "3+4I", "3+4i ", "3+4ii", "3 +4i", "3+ 4i", "(3+4i)", "1+2+3i", "i3+4i",
		"33554433+0i", "-33554433+0i", "0+33554433i", "0-33554433i", "9223372036854775807+0i", "0-9223372036854775808i",
		"'", "'a", "a'", "a", "'a'b'", "'''", "''''", `'\'`, `'\`, `'\\\'`, `'\q'`, `'\N'`, `'\"'`, `'\0'`, `'\x'`, `'\x0'`, `'\x0g'`, `'\x41'`, `'\x0A'`, `'\x1F'`, `'\x0a'`, `'\x09'`, `'\x0d'`, `'\x27'`, `'\x5c'`, `'\x80'`, `'\xc3\xa9'`, `'\xff'`, `'\X00'`, `'\u0041'`, `'\x+1'`, `'\x 1'`,
		"'\n'", "'\t'", "'\r'", "'\x00'", "'\x1f'", "'\x7f'", "'\xff'", "'\xc0\x80'", "'\xed\xa0\x80'", "\"a\"", "''a", "a''", "'' ", " ''",
		"'" + strings.Repeat("a", 33) + "'", "'" + strings.Repeat(`\n`, 33) + "'", "'" + strings.Repeat("é", 17) + "'", "'" + strings.Repeat(`\x00`, 33) + "'",
		"(0)", "[0]", "()", "[]", "(01)", "(+1)", "(-0)", "(1", "1)", "(1]", "[1)", "[1", "((1))", "( 1)", "(1 )", "(9223372036854775808)", "[a]", "(", "[", ")", "(1)(2)", "(1+1i)",
		"TRUE", "True", "FALSE", "Null", "NULL", "nul", "nulll", "true ", " true", "'true", "t", "none", "nil", "NaN", "Inf",
	} {
		if v, code := value.Scan(text); v != null || code != api.ErrText {
			t.Errorf("Scan(%q) = %#v, %d", text, v, code)
		}
	}
	if v, code := value.Scan(strings.Repeat("'", 1<<16)); v != null || code != api.ErrText {
		t.Errorf("Scan of 65536 quotes = %#v, %d", v, code)
	}
}

// TestP112NearLiterals: a text is taken just if it is the literal of what is answered, and no other text has that value.
func TestP112NearLiterals(t *testing.T) {
	for _, v := range values() {
		text := value.Print(v)
		for at := range len(text) {
			for _, c := range []string{"", "0", "1", "-", "+", "i", "'", `\`, "x", "n", "(", ")", "[", "]", " ", "\x00", "\xff"} {
				tryNear(t, text[:at]+c+text[at:])
				tryNear(t, text[:at]+c+text[at+1:])
			}
		}
	}
}

func tryNear(t *testing.T, text string) {
	t.Helper()
	v, code := value.Scan(text)
	if code == api.OK && value.Print(v) == text {
		return
	}
	if v != null || code != api.ErrText {
		t.Errorf("Scan(%q) = %#v, %d", text, v, code)
	}
}

func TestP112LongestStrings(t *testing.T) {
	for _, s := range []string{strings.Repeat("a", 32), strings.Repeat("\n", 32), strings.Repeat("\x00", 32), strings.Repeat("\x7f", 32), strings.Repeat("é", 16), strings.Repeat("'", 32), strings.Repeat(`\`, 32)} {
		if v, code := value.Scan(value.Print(str(s))); v != str(s) || code != api.OK {
			t.Errorf("Scan(%q) = %#v, %d", value.Print(str(s)), v, code)
		}
	}
}
