package syntax_test

import (
	"fmt"
	"slices"
	"strings"
	"testing"

	"trellis/api"
	"trellis/syntax"
)

// ways: a kind of tree, how it is drawn, read and printed.
var ways = []struct {
	name  string
	tree  func(d draw) any
	read  func(text string) (any, api.Errno, int)
	print func(tree any) (string, api.Errno)
}{
	{"exprs", func(d draw) any { return d.expr(1 + d.Intn(6)) }, entries[2].read, func(tree any) (string, api.Errno) { return syntax.PrintExpr(tree.(api.Expr)) }},
	{"lone", func(d draw) any { return d.query() }, entries[1].read, func(tree any) (string, api.Errno) { return syntax.Print(tree.(api.Query)) }},
	{"program", func(d draw) any { return some(d, 1, 3, d.query) }, entries[0].read, func(tree any) (string, api.Errno) { return syntax.PrintProgram(tree.([]api.Query)) }},
}

// drawnTrees: of each drawn tree a text, by the function, is read as that tree; false: there is none.
func drawnTrees(t *testing.T, textOf func(d draw, print func(tree any) (string, api.Errno), tree any) (string, bool)) {
	fine := 0
	for seed := range int64(4500) {
		d := newDraw(seed)
		w := ways[seed%3]
		tree := w.tree(d)
		text, ok := textOf(d, w.print, tree)
		if !ok {
			continue
		}
		fine++
		got, code, at := w.read(text)
		told(t, text, code, at, api.OK, 0)
		same(t, text, got, tree)
		if t.Failed() {
			t.Fatalf("seed %d", seed)
		}
	}
	if fine < 2000 {
		t.Errorf("the draw is poor: %d texts", fine)
	}
}

// TestP1005Drawn: what is printed of a drawn tree is read as that tree.
func TestP1005Drawn(t *testing.T) {
	drawnTrees(t, func(d draw, print func(tree any) (string, api.Errno), tree any) (string, bool) {
		text, code := print(tree)
		if code == api.ErrLong {
			return text, false
		}
		same(t, "the code", code, api.OK)
		return text, true
	})
}

// TestP1003Drawn: however the text of a drawn tree is written, it is read as that tree.
func TestP1003Drawn(t *testing.T) {
	drawnTrees(t, func(d draw, print func(tree any) (string, api.Errno), tree any) (string, bool) {
		text := d.text(tree)
		return text, len(text) <= api.MaxText
	})
}

// TestP1004Drawn: a tree with a field or a list that is changed is printed just if some text has it: if it is read from the text that it would have.
func TestP1004Drawn(t *testing.T) {
	sound, spoilt := 0, 0
	for seed := range int64(9000) {
		d := newDraw(seed)
		w := ways[seed%2] // of a program each query is one
		var tree any
		if seed%2 == 0 {
			e := d.expr(1 + d.Intn(5))
			d.spoil(&e)
			tree = e
		} else {
			q := d.query()
			d.spoil(&q)
			tree = q
		}
		text := d.text(tree)
		if len(text) > api.MaxText {
			continue
		}
		got, read, _ := w.read(text)
		_, code := w.print(tree)
		if has := read == api.OK && alike(got, tree); has != (code != api.ErrForm) {
			t.Fatalf("seed %d: a text has it: %v; but it is printed with %d: %+v (%q)", seed, has, code, tree, text)
		}
		if code == api.ErrForm {
			spoilt++
		} else {
			sound++
		}
	}
	if sound < 800 || spoilt < 3000 {
		t.Errorf("the draw is poor: %d sound trees, %d spoilt ones", sound, spoilt)
	}
}

// TestP1006Drawn: what is read is printed, and what is printed is printed again as itself.
func TestP1006Drawn(t *testing.T) {
	g := newGrammar(theGrammar)
	known := g.lengths()
	fine := 0
	for seed := range int64(3000) {
		d := newDraw(seed)
		w := ways[seed%3]
		fuel := 10 + d.Intn(300)
		text := strings.Join(g.drawn(d.Rand, known, w.name, &fuel), " ")
		tree, code, _ := w.read(text)
		if code != api.OK {
			continue
		}
		first, code := w.print(tree)
		if code == api.ErrLong {
			continue
		}
		fine++
		same(t, text, code, api.OK)
		tree, code, at := w.read(first)
		told(t, first, code, at, api.OK, 0)
		again, code := w.print(tree)
		same(t, first, []any{again, code}, []any{first, api.OK})
		if t.Failed() {
			t.Fatalf("seed %d", seed)
		}
	}
	if fine < 2000 {
		t.Errorf("the draw is poor: %d texts", fine)
	}
}

// TestP1006Long: a text may be too long, printed: never is it ErrForm.
func TestP1006Long(t *testing.T) {
	q, code, at := syntax.Parse("create " + row(16, row(7, "()", "--"), ",") + " return " + row(12, "case when 1 then 2 end", ","))
	told(t, "a text", code, at, api.OK, 0)
	if _, code := syntax.Print(q); code != api.OK {
		t.Errorf("printed: %d", code)
	}
	one := "a in[" + row(8, "-a<1", ",") + "]"
	long := "abort return " + row(9, "case "+row(4, "when "+one+" then "+one, " ")+"end", ",")
	q, code, at = syntax.Parse(long)
	told(t, long, code, at, api.OK, 0)
	unprinted(t, q, api.ErrLong)
}

// tokensOnly: the kinds and the texts of tokens.
func tokensOnly(tokens []api.Token) []api.Token {
	out := slices.Clone(tokens)
	for i := range out {
		out[i].At = 0
	}
	return out
}

// TestP1007Layout: two texts of the same tokens have the same tree, or the same error at the token of the same number.
func TestP1007Layout(t *testing.T) {
	g := newGrammar(theGrammar)
	known := g.lengths()
	trees, faults := 0, 0
	for seed := range int64(4000) {
		d := newDraw(seed)
		w := ways[seed%3]
		fuel := 5 + d.Intn(100)
		tokens := g.drawn(d.Rand, known, w.name, &fuel)
		for range d.Intn(3) {
			tokens = spoilt(d.Rand, tokens)
		}
		one, two := strings.Join(tokens, " "), d.laidOut(tokens)
		if len(two) > api.MaxText {
			continue
		}
		first, second := lexed(t, one), lexed(t, two)
		same(t, two, tokensOnly(second), tokensOnly(first))
		tree, code, at := w.read(one)
		other, otherCode, otherAt := w.read(two)
		same(t, two, []any{other, otherCode}, []any{tree, code})
		if code == api.OK {
			trees++
		} else {
			faults++
			place := slices.IndexFunc(first, func(token api.Token) bool { return token.At == at })
			same(t, two, otherAt, second[place].At)
		}
		if t.Failed() {
			t.Fatalf("seed %d", seed)
		}
	}
	if trees < 1000 || faults < 1000 {
		t.Errorf("the draw is poor: %d trees, %d faults", trees, faults)
	}
}

// TestP1007Close: blanks may be missing where the tokens stay the same.
func TestP1007Close(t *testing.T) {
	wide := "match ( a : x { k : 1 } ) < - [ r : t * 1 .. 2 ] - ( b ) where a . k <> - 3 and not b . k in [ 1 , 2i ] return count ( * ) as n , 'x' order by n desc , 2 skip 3 limit 4"
	close := "match(a:x{k:1})<-[r:t*1..2]-(b)where a.k<>-3and not b.k in[1,2i]return count(*)as n,'x'order by n desc,2skip 3limit 4"
	fails(t, close, api.ErrChar, strings.Index(close, "3and")+1)
	close = strings.NewReplacer("3and", "3//\nand", "2skip", "2//\nskip", "3limit", "3//\nlimit").Replace(close)
	same(t, close, tokensOnly(lexed(t, close)), tokensOnly(lexed(t, wide)))
	q, code, _ := syntax.Parse(wide)
	same(t, "the code", code, api.OK)
	parses(t, close, q)
}

// TestP1007Kinds: a string is no word and no mark, whatever it means; a name is none either.
func TestP1007Kinds(t *testing.T) {
	for _, text := range []string{"(a)", "1", "a.k", "a and b", "re(1)", "case when a then 1 end", "a in [1]", "not a", "null", "-a"} {
		for i, token := range lexed(t, text) {
			if token.Kind != api.TokWord && token.Kind != api.TokMark {
				continue
			}
			tokens := lexed(t, text)
			var b strings.Builder
			for j, other := range tokens {
				if i == j {
					fmt.Fprintf(&b, " '%s'", other.Text)
				} else {
					b.WriteString(" " + other.Text)
				}
			}
			want, _, _ := syntax.ParseExpr(text)
			if got, code, _ := syntax.ParseExpr(b.String()); code == api.OK && alike(got, want) {
				t.Errorf("%q is read as %q", b.String(), text)
			}
		}
	}
}
