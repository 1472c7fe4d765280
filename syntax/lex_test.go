package syntax_test

import (
	"fmt"
	"math/rand"
	"regexp"
	"slices"
	"strings"
	"testing"

	"trellis/api"
	"trellis/syntax"
	"trellis/value"
)

// theWords, theMarks: those of the chapter.
var (
	theWords = strings.Fields("match optional where create merge set remove delete detach abort with return distinct as order by asc desc skip limit and or xor not is null true false in starts ends contains case when then else end")
	theMarks = strings.Fields(".. <> <= >= ( ) [ ] { } , ; : . * + - / % = < >")
)

// lexes: Lex must answer these tokens.
func lexes(t *testing.T, text string, want ...api.Token) {
	t.Helper()
	got, code, at := syntax.Lex(text)
	told(t, fmt.Sprintf("Lex(%q)", text), code, at, api.OK, 0)
	same(t, fmt.Sprintf("Lex(%q)", text), got, want)
}

// failsLex: Lex must answer that error at that place, and so must all that read a text.
func failsLex(t *testing.T, text string, code api.Errno, at int) {
	t.Helper()
	got, gotCode, gotAt := syntax.Lex(text)
	told(t, fmt.Sprintf("Lex(%.60q)", text), gotCode, gotAt, code, at)
	zero(t, text, got)
	failsExpr(t, text, code, at)
	fails(t, text, code, at)
	failsProgram(t, text, code, at)
}

// alone: the text is one token.
func alone(t *testing.T, text string, kind int, means string) {
	t.Helper()
	lexes(t, text, api.Token{Kind: kind, Text: means}, api.Token{Kind: api.TokEnd, At: len(text)})
	lexes(t, " "+text+"\n", api.Token{Kind: kind, Text: means, At: 1}, api.Token{Kind: api.TokEnd, At: len(text) + 2})
}

func TestP1001Kinds(t *testing.T) {
	if len(theWords) != 37 || len(theMarks) != 22 {
		t.Fatalf("%d words, %d marks", len(theWords), len(theMarks))
	}
	for _, w := range theWords {
		alone(t, w, api.TokWord, w)
		if len(w) < api.MaxName {
			alone(t, w+"0", api.TokName, w+"0")
			alone(t, w+"z", api.TokName, w+"z")
			alone(t, "z"+w, api.TokName, "z"+w)
		}
	}
	for _, m := range theMarks {
		alone(t, m, api.TokMark, m)
	}
	for _, n := range []string{"a", "z", "a0", "z9", "abcdefgh", "a2345678", "i", "count", "re", "matc", "matchh"} {
		alone(t, n, api.TokName, n)
	}
	for _, n := range []string{"0", "7", "007", "123", "9223372036854775807", "9223372036854775808", strings.Repeat("0", 100) + "9223372036854775808", strings.Repeat("0", 100)} {
		alone(t, n, api.TokNumber, n)
	}
	for _, n := range []string{"0i", "3i", "00003i", "33554432i", strings.Repeat("0", 100) + "33554432i"} {
		alone(t, n, api.TokImag, n)
	}
	lexes(t, "", api.Token{Kind: api.TokEnd})
}

func TestP1001Strings(t *testing.T) {
	for text, means := range map[string]string{
		`''`: "", `'a'`: "a", `'it\'s'`: "it's", `'\\'`: `\`, `'\\\''`: `\'`, `'\n\t\r'`: "\n\t\r", `'\x00\x1f\x7f'`: "\x00\x1f\x7f",
		`'//x'`: "//x", `'match'`: "match", `'('`: "(", `'é€😀'`: "é€😀", `'"'`: `"`, "'" + strings.Repeat("a", 32) + "'": strings.Repeat("a", 32),
		"'" + strings.Repeat(`\'`, 32) + "'": strings.Repeat("'", 32), "'" + strings.Repeat(`\x00`, 32) + "'": strings.Repeat("\x00", 32),
	} {
		alone(t, text, api.TokString, means)
	}
	for _, text := range []string{
		`'`, `'a`, `'\'`, `'\`, `'a\`, `'\\\'`, // no closing quote
		`'\a'`, `'\x'`, `'\x4'`, `'\x41'`, `'\x0A'`, `'\x0a'`, `'\"'`, `'\xff'`, "'\n'", "'\t'", "'\x00'", "'\x7f'", "'\xff'", "'\xc0\x80'", "'\xed\xa0\x80'", // no literal
		"'" + strings.Repeat("a", 33) + "'", "'" + strings.Repeat("é", 17) + "'", "'" + strings.Repeat(`\n`, 33) + "'",
	} {
		failsLex(t, text, api.ErrChar, 0)
		failsLex(t, "a "+text, api.ErrChar, 2)
	}
	lexes(t, `'a''b'`, api.Token{Kind: api.TokString, Text: "a"}, api.Token{Kind: api.TokString, Text: "b", At: 3}, api.Token{Kind: api.TokEnd, At: 6})
	lexes(t, `'a'b'c'`, api.Token{Kind: api.TokString, Text: "a"}, api.Token{Kind: api.TokName, Text: "b", At: 3}, api.Token{Kind: api.TokString, Text: "c", At: 4}, api.Token{Kind: api.TokEnd, At: 7})
	failsLex(t, `'a''`, api.ErrChar, 3)
}

func TestP1001Long(t *testing.T) {
	for _, text := range []string{
		"abcdefghi", "a23456789", "optionals", "a" + strings.Repeat("0", 4000),
		"9223372036854775809", "9223372036854775810", "10000000000000000000", "18446744073709551616", "18446744073709551615", "99999999999999999999a", "0009223372036854775809", strings.Repeat("9", 4000),
		"33554433i", "000033554433i", "9223372036854775808i", "99999999999999999999i", "99999999999999999999i5",
	} {
		failsLex(t, text, api.ErrLong, 0)
		failsLex(t, "a+"+text+" A", api.ErrLong, 2)
	}
	if _, code, _ := syntax.Lex(strings.Repeat(" ", api.MaxText)); code != api.OK {
		t.Errorf("4096 blanks: %d", code)
	}
	failsLex(t, strings.Repeat(" ", api.MaxText+1), api.ErrLong, 0)
	failsLex(t, strings.Repeat("A", api.MaxText+1), api.ErrLong, 0)
	failsLex(t, strings.Repeat("A", api.MaxText), api.ErrChar, 0)
}

func TestP1001Char(t *testing.T) {
	for text, at := range map[string]int{
		"12a": 2, "3i5": 1, "3ii": 1, "3ia": 1, "33554433i5": 8, "9223372036854775808a": 19, "0x1": 1, "1e5": 1, "12abcdefghijk": 2,
		"3iA": 2, "12A": 2, "12_": 2, "a_b": 1, "aB": 1, "a'": 1, "a b \"": 4, "!": 0, "a != b": 2, "a & b": 2, "a | b": 2, "$": 0, "\\": 0, "\v": 0, "\f": 0, "\u00a0": 0, "é": 0, "a\x00": 1, "//x\n\n?": 5, "// ? \n A": 7,
	} {
		failsLex(t, text, api.ErrChar, at)
	}
}

// TestP1001Bytes: every byte alone, and behind a letter, a digit and an imag.
func TestP1001Bytes(t *testing.T) {
	for c := range 256 {
		for _, ahead := range []string{"", "a", "7", "7i", "/", "<", ">", "."} {
			text := ahead + string([]byte{byte(c)})
			looksUp(t, text)
			looksUp(t, text+"x")
			looksUp(t, text+"9")
		}
	}
}

func TestP1001Blanks(t *testing.T) {
	for _, gap := range []string{" ", "\t", "\n", "\r", " \r\n\t ", "//\n", "// a b 'c \xff A \r\n", " // x\n // y\n "} {
		lexes(t, gap+"a"+gap+"1"+gap, api.Token{Kind: api.TokName, Text: "a", At: len(gap)}, api.Token{Kind: api.TokNumber, Text: "1", At: 2*len(gap) + 1}, api.Token{Kind: api.TokEnd, At: 3*len(gap) + 2})
	}
	lexes(t, "a//", api.Token{Kind: api.TokName, Text: "a"}, api.Token{Kind: api.TokEnd, At: 3})
	lexes(t, "a//b\r'c", api.Token{Kind: api.TokName, Text: "a"}, api.Token{Kind: api.TokEnd, At: 7})
	lexes(t, "/ /", api.Token{Kind: api.TokMark, Text: "/"}, api.Token{Kind: api.TokMark, Text: "/", At: 2}, api.Token{Kind: api.TokEnd, At: 3})
	lexes(t, "///", api.Token{Kind: api.TokEnd, At: 3})
}

// TestP1001AsLongAsCanBe: of a longer and a shorter token the longer one.
func TestP1001AsLongAsCanBe(t *testing.T) {
	for text, want := range map[string]string{
		"...": ".. .", "....": ".. ..", "<<=": "< <=", "<>=": "<> =", "<=>": "<= >", ">=<": ">= <", ">>=": "> >=", "<->": "< - >", "<--": "< - -", "-->": "- - >", "1..3": "1 .. 3", "1.3": "1 . 3", "a.b": "a . b", "1...3": "1 .. . 3",
		"matcha": "matcha", "match1": "match1", "inset": "inset", "in set": "in set", "a1b2": "a1b2", "3i.i": "3i . i", "3i-3": "3i - 3", "(a)": "( a )",
	} {
		got, code, _ := syntax.Lex(text)
		var texts []string
		for _, token := range got {
			texts = append(texts, token.Text)
		}
		same(t, text, []any{strings.TrimSpace(strings.Join(texts, " ")), code}, []any{want, api.OK})
	}
}

// bookForms: the kinds of tokens, as the chapter's table has them.
var bookForms = []struct {
	kind int
	form *regexp.Regexp
}{
	{0, regexp.MustCompile(`^([ \t\n\r]|//[^\n]*)+`)},
	{api.TokName, regexp.MustCompile(`^[a-z][a-z0-9]*`)},
	{api.TokNumber, regexp.MustCompile(`^[0-9]+`)},
	{api.TokString, regexp.MustCompile(`(?s)^'([^\\']|\\.)*'`)},
	{api.TokMark, regexp.MustCompile(`^(\.\.|<>|<=|>=|[()\[\]{},;:.*+\-/%=<>])`)},
}

// bookImag: a number that has an i behind it.
var bookImag = regexp.MustCompile(`^[0-9]+i([^a-z0-9]|$)`)

// bookLex: a second reckoning, by the chapter's words. (A form that begins with the text's first byte tells the kind: no two have the same first byte, but for a comment and a mark.)
func bookLex(text string) ([]api.Token, api.Errno, int) {
	var out []api.Token
	if len(text) > 4096 {
		return nil, api.ErrLong, 0
	}
	for at := 0; ; {
		if at == len(text) {
			return append(out, api.Token{Kind: api.TokEnd, At: at}), api.OK, 0
		}
		kind, found := 0, ""
		latin := asLatin(text[at:])
		for _, f := range bookForms {
			if m := f.form.FindString(latin); m != "" {
				kind, found = f.kind, text[at:at+len([]rune(m))]
				break
			}
		}
		if found == "" {
			return nil, api.ErrChar, at
		}
		if kind == api.TokNumber && bookImag.MatchString(latin) {
			kind, found = api.TokImag, found+"i"
		}
		means, code, place := bookToken(kind, found, text[at+len(found):])
		if code != api.OK {
			return nil, code, at + place
		}
		if kind == api.TokName && slices.Contains(theWords, found) {
			kind = api.TokWord
		}
		if kind != 0 {
			out = append(out, api.Token{Kind: kind, Text: means, At: at})
		}
		at += len(found)
	}
}

// asLatin: the text with one rune for each byte, so that a form cannot trip over what is no rune.
func asLatin(text string) string {
	runes := make([]rune, len(text))
	for i := range runes {
		runes[i] = rune(text[i])
	}
	return string(runes)
}

// bookToken: what the token means, or what is wrong with it.
func bookToken(kind int, text, behind string) (string, api.Errno, int) {
	switch kind {
	case api.TokName:
		if len(text) > 8 {
			return "", api.ErrLong, 0
		}
	case api.TokNumber, api.TokImag:
		most := "9223372036854775808"
		if kind == api.TokImag {
			most = "33554432"
		}
		digits := strings.TrimLeft(strings.TrimSuffix(text, "i"), "0")
		if len(digits) > len(most) || len(digits) == len(most) && digits > most {
			return "", api.ErrLong, 0
		}
		if behind != "" && behind[0] >= 'a' && behind[0] <= 'z' {
			return "", api.ErrChar, len(text)
		}
	case api.TokString:
		v, code := value.Scan(text)
		if code != api.OK {
			return "", api.ErrChar, 0
		}
		return v.S, api.OK, 0
	}
	return text, api.OK, 0
}

// looksUp: Lex must answer what the book says.
func looksUp(t *testing.T, text string) {
	t.Helper()
	got, code, at := syntax.Lex(text)
	want, wantCode, wantAt := bookLex(text)
	told(t, fmt.Sprintf("Lex(%q)", text), code, at, wantCode, wantAt)
	same(t, fmt.Sprintf("Lex(%q)", text), got, want)
}

// scraps: of what drawn texts are made.
var scraps = append(append(strings.Fields(`a z a1 abcdefg abcdefgh abcdefghi 0 7 00 12 9223372036854775808 9223372036854775809 33554432 33554433 i 3i 3i5 'a' 'it\'s' '\\' '\x00' '\x41' ' \ // A é ! "`), "\n", " ", "\t", "\r", "\xff", "\x00", "'é'", "'\xff'"), append(theWords, theMarks...)...)

func TestP1001Drawn(t *testing.T) {
	r := rand.New(rand.NewSource(1001))
	for range 30000 {
		var b strings.Builder
		for range 1 + r.Intn(8) {
			b.WriteString(scraps[r.Intn(len(scraps))])
			if r.Intn(3) == 0 {
				b.WriteString(" ")
			}
		}
		looksUp(t, b.String())
		if t.Failed() {
			return
		}
	}
}
