package syntax_test

import (
	"math/rand"
	"slices"
	"strings"
	"testing"

	"trellis/api"
	"trellis/syntax"
)

// entries: what reads a text, and the symbol of the grammar by which it does.
var entries = []struct {
	symbol string
	read   func(text string) (any, api.Errno, int)
}{
	{"program", func(text string) (any, api.Errno, int) { q, code, at := syntax.Program(text); return q, code, at }},
	{"lone", func(text string) (any, api.Errno, int) { q, code, at := syntax.Parse(text); return q, code, at }},
	{"exprs", func(text string) (any, api.Errno, int) { e, code, at := syntax.ParseExpr(text); return e, code, at }},
}

// judged: the answer must be what the grammar says of the tokens: a fault of the form at the first one with which none goes on (its number is given; len(tokens): there is none); a limit ahead of that.
func judged(t *testing.T, text string, tokens []api.Token, fault int, got any, code api.Errno, at int) {
	t.Helper()
	place := slices.IndexFunc(tokens, func(token api.Token) bool { return token.At == at })
	switch code {
	case api.OK:
		if at != 0 || fault < len(tokens) {
			t.Errorf("%q: OK at %d, but token %d cannot stand there", text, at, fault)
		}
		return
	case api.ErrSyntax:
		if place != fault {
			t.Errorf("%q: ErrSyntax at token %d, want token %d of %d", text, place, fault, len(tokens))
		}
	case api.ErrMany, api.ErrDeep:
		if place < 0 || place >= fault {
			t.Errorf("%q: %d at token %d, but token %d cannot stand there", text, code, place, fault)
		}
	default:
		t.Errorf("%q: %d", text, code)
	}
	zero(t, text, got)
}

// lexed: the tokens of a text that has no fault of tokens.
func lexed(t *testing.T, text string) []api.Token {
	t.Helper()
	tokens, code, at := syntax.Lex(text)
	told(t, text, code, at, api.OK, 0)
	return tokens
}

// spoilt: the tokens with one of them taken away, doubled, or changed for another, or two of them for each other.
func spoilt(r *rand.Rand, tokens []string) []string {
	out := slices.Clone(tokens)
	if len(out) == 0 {
		return out
	}
	at := r.Intn(len(out))
	other := tokenScraps[r.Intn(len(tokenScraps))]
	switch r.Intn(6) {
	case 0:
		return slices.Delete(out, at, at+1)
	case 1:
		return slices.Insert(out, at, out[at])
	case 2:
		return slices.Insert(out, at, other)
	case 3:
		return out[:at]
	case 4:
		to := r.Intn(len(out))
		out[at], out[to] = out[to], out[at]
		return out
	}
	out[at] = other
	return out
}

// tokenScraps: texts of one token.
var tokenScraps = slices.Concat(theWords, theMarks, strings.Fields(`a b re count sum coalesce deg dist hops foo 0 1 5 6 12 13 9223372036854775807 9223372036854775808 3i 'a' 'match' '(' ''`))

// TestP1003Grammar, and with it P1008: drawn texts of the form, and spoilt ones, have just the place of the fault that the grammar says.
func TestP1003Grammar(t *testing.T) {
	g := newGrammar(theGrammar)
	known, symbols := g.lengths(), g.linked()
	r := rand.New(rand.NewSource(1003))
	fine, faults, limits := 0, 0, 0
	for i := range 4000 {
		e := entries[i%len(entries)]
		fuel := 10 + r.Intn(160)
		tokens := g.drawn(r, known, e.symbol, &fuel)
		for range r.Intn(3) {
			tokens = spoilt(r, tokens)
		}
		text := strings.Join(tokens, " ")
		if len(text) > api.MaxText {
			continue
		}
		got, code, at := e.read(text)
		list := lexed(t, text)
		judged(t, text, list, firstFault(symbols[e.symbol], list), got, code, at)
		switch code {
		case api.OK:
			fine++
		case api.ErrSyntax:
			faults++
		default:
			limits++
		}
		if t.Failed() {
			return
		}
	}
	if fine < 1000 || faults < 1000 || limits < 10 {
		t.Errorf("the draw is poor: %d texts are fine, %d have faults, %d are beyond limits", fine, faults, limits)
	}
}

// TestP1008EveryToken: behind each beginning of some texts, each token that there is: just those go on with which the grammar does.
func TestP1008EveryToken(t *testing.T) {
	symbols := newGrammar(theGrammar).linked()
	for _, text := range []string{
		"optional match ( a : x { k : 1 , j : not b } ) - [ r : t * 2 .. 3 { k : 1 } ] -> ( b ) < - - ( ) , ( c ) where a . k = 1 return distinct a as b , c . k order by b desc , 2 asc skip 1 limit 2",
		"create ( a ) - - ( b ) , ( c ) merge ( a ) , ( b ) set a . k = 1 , b . k = 2 remove a . k , b . k detach delete a , b delete c abort with a , ( ( b ) ) , b . k as c where a return 1",
		"return case when a then 1 when b then 2 else 3 end , deg ( a , t ) , hops ( a , b , t ) , dist ( a , b , t , w ) , cpx ( 1 , 2 ) , coalesce ( 1 , 2 ) , count ( * ) , sum ( distinct a ) , re ( a )",
		"return not not a or b xor c and d , a starts with b , a ends with b , a contains b , a is not null , a is null , a in [ ] , a in [ 1 , 2 ] , - - 5 , - 9223372036854775808 , 1 - 2 * 3i / a % ( 'x' )",
		"match ( ) - [ * ] - ( ) - [ * .. ] - ( ) - [ * 3 ] - ( ) - [ * 3 .. ] - ( ) - [ * .. 3 ] - ( ) - [ ] - ( ) return 1",
	} {
		tokens := strings.Fields(strings.ReplaceAll(text, "->", "- >"))
		w := newReading(symbols["lone"])
		for n := range len(tokens) + 1 {
			ahead := strings.Join(tokens[:n], " ")
			for _, other := range tokenScraps {
				whole := ahead + " " + other
				got, code, at := syntax.Parse(whole)
				list := lexed(t, whole)
				fault := n
				if w.next(list[n]) {
					fault++
					if w.next(list[n+1]) {
						fault++
						w.back(1)
					}
					w.back(1)
				}
				judged(t, whole, list, fault, got, code, at)
			}
			if t.Failed() {
				return
			}
			if n < len(tokens) && !w.next(lexed(t, tokens[n])[0]) {
				t.Fatalf("%q does not go on with %q", ahead, tokens[n])
			}
		}
	}
}

// TestP1008GoesOn: with a fault at p, the tokens ahead of p, and another end behind them, have the form.
func TestP1008GoesOn(t *testing.T) {
	for _, c := range []struct {
		text string
		at   int
		end  string
	}{
		{"match (a)", 9, " return 1"},
		{"match (a) (b)", 10, " return 1"},
		{"return foo(1)", 10, ""},
		{"return re()", 10, "1)"},
		{"return sum(*)", 11, "1)"},
		{"match (a)<-[]->(b) return 1", 14, "(b) return 1"},
		{"match (a) with a.k return 1", 19, "as b return 1"},
		{"return a = b = c", 13, ""},
		{"match (a)-[*3..2]-(b) return 1", 15, "3]-(b) return 1"},
		{"match (a)-[*6]-(b) return 1", 12, "5]-(b) return 1"},
		{"return 1 skip 9223372036854775808", 14, "9223372036854775807"},
		{"return 1 - 9223372036854775808", 11, "9223372036854775807"},
		{"return 1 order by 13", 18, "12"},
		{"return 1 order by 0", 18, "a"},
		{"return", 6, " 1"},
		{"optional create (a)", 9, "match (a) return 1"},
		{"abort match (a) return 1", 6, "abort"},
		{"return 1 return 2", 9, ""},
		{"with a", 6, " return 1"},
		{"return dist(a, b, t)", 19, ", w)"},
		{"return deg(a, 1)", 14, "t)"},
		{"return cpx(1)", 12, ", 2)"},
		{"return re(1, 2)", 11, ")"},
		{"return count(distinct *)", 22, "1)"},
		{"return a is 1", 12, "null"},
		{"return a starts 'b'", 16, "with 'b'"},
		{"return a in (1)", 12, "[1]"},
		{"return case else 1 end", 12, "when 1 then 2 else 1 end"},
		{"return case when 1 else 2 end", 19, "then 2 end"},
		{"return a + not b", 11, "b"},
		{"return -not b", 8, "b"},
		{"return a = not b", 11, "b"},
		{"return a.match", 9, "k"},
		{"match (a:match) return 1", 9, "b) return 1"},
		{"match (a {1: 2}) return 1", 10, "k: 2}) return 1"},
		{"match (a {k: 2,}) return 1", 15, "j: 2}) return 1"},
		{"match (a b) return 1", 9, ") return 1"},
		{"match ({k: 1} a) return 1", 14, ") return 1"},
		{"merge (a)-[]-(b)", 9, ""},
		{"delete a.k", 8, ""},
		{"set a = 1", 6, ".k = 1"},
		{"remove a", 8, ".k"},
		{"detach abort", 7, "delete a"},
		{"return 1 where 1", 9, ""},
		{"with a where 1 limit 1 return 1", 15, "return 1"},
		{"return 1 limit 1 skip 1", 17, ""},
		{"return 1 order 1", 15, "by 1"},
		{"return 1 order by a asc desc", 24, ""},
		{"return 1 order by a.k", 19, ""},
		{"return a as b.k", 13, ""},
		{"return distinct", 15, " 1"},
		{"return 1, distinct 2", 10, "2"},
		{"'match' (a) return 1", 0, "match (a) return 1"},
		{"return '('1)", 10, ""},
		{"return (1", 9, ")"},
		{"return 1)", 8, ""},
		{"match (a)>(b) return 1", 9, " return 1"},
		{"match (a)<>(b) return 1", 9, " return 1"},
		{"match (a)-(b) return 1", 10, "-(b) return 1"},
		{"match (a)-[1]-(b) return 1", 11, "]-(b) return 1"},
		{"match (a)-[*1.2]-(b) return 1", 13, "]-(b) return 1"},
	} {
		fails(t, c.text, api.ErrSyntax, c.at)
		if _, code, at := syntax.Parse(c.text[:c.at] + c.end); code != api.OK {
			t.Errorf("%q: %d at %d", c.text[:c.at]+c.end, code, at)
		}
	}
}
