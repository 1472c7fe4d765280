package value

import (
	"strconv"
	"strings"

	"trellis/api"
)

// escape: a byte that stands as a backslash and a letter in a literal.
type escape struct {
	of, letter byte
}

var escapes = [...]escape{{'\\', '\\'}, {'\'', '\''}, {'\n', 'n'}, {'\t', 't'}, {'\r', 'r'}}

const hexDigits = "0123456789abcdef"

func (x null) literal() string  { return "null" }
func (x truth) literal() string { return strconv.FormatBool(bool(x)) }
func (x whole) literal() string { return decimal(int64(x)) }

func (x cpx) literal() string {
	a, b := x.parts()
	if b < 0 {
		return decimal(a) + decimal(b) + "i"
	}
	return decimal(a) + "+" + decimal(b) + "i"
}

func (x str) literal() string {
	var b strings.Builder
	b.WriteByte('\'')
	for _, r := range x {
		b.WriteString(escaped(r))
	}
	b.WriteByte('\'')
	return b.String()
}

func (x node) literal() string { return "(" + decimal(int64(x)) + ")" }
func (x edge) literal() string { return "[" + decimal(int64(x)) + "]" }

func decimal(n int64) string {
	return strconv.FormatInt(n, 10)
}

// escaped: how a code point stands in a string's literal.
func escaped(r rune) string {
	for _, e := range escapes {
		if r == rune(e.of) {
			return string([]byte{'\\', e.letter})
		}
	}
	if r < 32 || r == 127 {
		return string([]byte{'\\', 'x', hexDigits[r>>4], hexDigits[r&15]})
	}
	return string(r)
}

// guessOfText: the value that has the text as its literal, if one has; else anything.
func guessOfText(text string) api.Val {
	switch {
	case text == "null":
		return api.Val{Kind: api.KNull}
	case text == "false":
		return api.Val{Kind: api.KBool}
	case text == "true":
		return api.Val{Kind: api.KBool, A: 1}
	case strings.HasPrefix(text, "'"):
		return api.Val{Kind: api.KStr, S: unescaped(inner(text))}
	case strings.HasPrefix(text, "("):
		return api.Val{Kind: api.KNode, A: wholeOf(inner(text))}
	case strings.HasPrefix(text, "["):
		return api.Val{Kind: api.KEdge, A: wholeOf(inner(text))}
	case strings.HasSuffix(text, "i"):
		return guessOfComplex(strings.TrimSuffix(text, "i"))
	}
	return api.Val{Kind: api.KInt, A: wholeOf(text)}
}

// guessOfComplex: the text has no i behind it any more. The second part's sign is the last one of the text.
func guessOfComplex(text string) api.Val {
	at := max(strings.LastIndexByte(text, '+'), strings.LastIndexByte(text, '-'), 0)
	return api.Val{Kind: api.KCpx, A: wholeOf(text[:at]), B: wholeOf(text[at:])}
}

// inner: the text without its first and its last byte.
func inner(text string) string {
	if len(text) < 2 {
		return ""
	}
	return text[1 : len(text)-1]
}

// wholeOf: some number, where the text is none.
func wholeOf(text string) int64 {
	n, _ := strconv.ParseInt(text, 10, 64)
	return n
}

// unescaped: what stands between a literal's quotes, with each escape as the byte that it stands for.
func unescaped(text string) string {
	var b strings.Builder
	for text != "" {
		c, size := firstByte(text)
		b.WriteByte(c)
		text = text[size:]
	}
	return b.String()
}

// firstByte: the byte that the text, which is not empty, begins with or has an escape for, and how many bytes it takes there.
func firstByte(text string) (byte, int) {
	if text[0] != '\\' || len(text) < 2 {
		return text[0], 1
	}
	for _, e := range escapes {
		if text[1] == e.letter {
			return e.of, 2
		}
	}
	if text[1] != 'x' || len(text) < 4 {
		return text[0], 1
	}
	n, _ := strconv.ParseUint(text[2:4], 16, 8)
	return byte(n), 4
}
