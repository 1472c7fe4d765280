package syntax

import (
	"strconv"

	"trellis/api"
)

// fault: with what, and where in the text, the reading gives up.
type fault struct {
	code api.Errno
	at   int
}

// reader: reads tokens from the left, by the grammar. The last token, api.TokEnd, is looked at alone and never passed.
type reader struct {
	rest []api.Token
}

// caught: what the whole text is, read by the rule; or the fault with which the reading gave up. Every face that reads goes through it, so that no panic leaves a call.
func caught[T any](text string, rule func(r *reader) T) (out T, code api.Errno, at int) {
	tokens, code, at := Lex(text)
	if code != api.OK {
		return out, code, at
	}
	defer func() {
		if why := recover(); why != nil {
			f := why.(fault)
			code, at = f.code, f.at
		}
	}()
	return ended(&reader{rest: tokens[:len(tokens):len(tokens)]}, rule), api.OK, 0
}

// ended: what the rule reads, if nothing stands behind it.
func ended[T any](r *reader, rule func(r *reader) T) T {
	out := rule(r)
	r.must(r.atEnd())
	return out
}

// must: gives up at the next token, if it cannot stand there.
func (r *reader) must(fits bool) {
	if !fits {
		panic(fault{api.ErrSyntax, r.next().At})
	}
}

// room: gives up at the next token, if it begins one too many.
func (r *reader) room(have, most int) {
	if have >= most {
		panic(fault{api.ErrMany, r.next().At})
	}
}

// next: the token that is read next.
func (r *reader) next() api.Token { return r.rest[0] }

// pass: the next token, which is read with this. What is still to be read is handed on with its room cut off.
func (r *reader) pass() api.Token {
	t := r.rest[0]
	r.rest = r.rest[1:len(r.rest):len(r.rest)]
	return t
}

func (r *reader) atEnd() bool    { return r.next().Kind == api.TokEnd }
func (r *reader) atName() bool   { return r.next().Kind == api.TokName }
func (r *reader) atNumber() bool { return r.next().Kind == api.TokNumber }

// sees: is the next token that word or mark?
func (r *reader) sees(text string) bool {
	t := r.next()
	return (t.Kind == api.TokWord || t.Kind == api.TokMark) && t.Text == text
}

// seesOne: is the next token one of these words and marks?
func (r *reader) seesOne(texts ...string) bool {
	for _, text := range texts {
		if r.sees(text) {
			return true
		}
	}
	return false
}

// took: the next token is that word or mark, and is read with this.
func (r *reader) took(text string) bool {
	if !r.sees(text) {
		return false
	}
	r.pass()
	return true
}

// need: that word or mark must stand here.
func (r *reader) need(text string) {
	r.must(r.took(text))
}

// name: one that must stand here.
func (r *reader) name() string {
	r.must(r.atName())
	return r.pass().Text
}

// nameBehind: the name that must stand behind the mark; empty where the mark is missing.
func (r *reader) nameBehind(mark string) string {
	if !r.took(mark) {
		return ""
	}
	return r.name()
}

// nameIfAny: the name that stands here; empty if there is none.
func (r *reader) nameIfAny() string {
	if !r.atName() {
		return ""
	}
	return r.name()
}

// seesNumber: is the next token a number from least to most?
func (r *reader) seesNumber(least, most uint64) bool {
	n := wholeOf(r.next().Text)
	return r.atNumber() && least <= n && n <= most
}

// number: one from least to most that must stand here.
func (r *reader) number(least, most uint64) int {
	r.must(r.seesNumber(least, most))
	return int(wholeOf(r.pass().Text))
}

// wholeOf: the number that the digits are; some number, where the text has others.
func wholeOf(digits string) uint64 {
	n, _ := strconv.ParseUint(digits, 10, 64)
	return n
}

// list: out, and behind it what stands here with commas between, one at least: most in all. Where more are meant, the next one's first token tells whether it is one too many, or could not stand there anyway.
func list[T any](r *reader, out []T, most int, begins func(r *reader) bool, one func(r *reader) T) []T {
	for {
		r.must(begins(r))
		r.room(len(out), most)
		out = append(out, one(r))
		if !r.took(",") {
			return out
		}
	}
}
