package syntax_test

import (
	"math"
	"math/rand"
	"strconv"
	"strings"

	"trellis/api"
)

// theGrammar: the chapter's, word for word but for what it says beyond it: 'small' is a number that a value can have, 'col' one that an order key can have, 'one' to 'five' (and what is no less than these) the lengths behind a star; an item behind with has its "as" or is a variable, in brackets or not. A name in “ is the name of that text.
const theGrammar = "" +
	`program  = query { ";" query } [ ";" ] end
	query    = { part "with" handed [ "where" expr ] } last
	lone     = query end
	exprs    = expr end
	part     = { match } { acts }
	last     = { match } ( acts { acts } [ "return" given ] | "return" given )
	match    = [ "optional" ] "match" path { "," path } [ "where" expr ]
	acts     = "create" path { "," path } | "merge" node { "," node }
	         | "set" name "." name "=" expr { "," name "." name "=" expr }
	         | "remove" name "." name { "," name "." name }
	         | [ "detach" ] "delete" name { "," name } | "abort"
	given    = [ "distinct" ] item { "," item } tail
	handed   = [ "distinct" ] kept { "," kept } tail
	tail     = [ "order" "by" key { "," key } ] [ "skip" small ] [ "limit" small ]
	item     = expr [ "as" name ]
	kept     = expr "as" name | plain
	plain    = name | "(" plain ")"
	key      = ( col | name ) [ "asc" | "desc" ]
	path     = node { hop node }
	node     = "(" [ name ] [ ":" name ] [ props ] ")"
	hop      = "-" [ edge ] "-" [ ">" ] | "<" "-" [ edge ] "-"
	edge     = "[" [ name ] [ ":" name ] [ "*" leap ] [ props ] "]"
	leap     = [ ".." [ fromone ] ] | one [ ".." [ fromone ] ] | two [ ".." [ fromtwo ] ] | three [ ".." [ fromthree ] ]
	         | four [ ".." [ fromfour ] ] | five [ ".." [ fromfive ] ]
	props    = "{" [ name ":" expr { "," name ":" expr } ] "}"
	expr     = xors { "or" xors }
	xors     = ands { "xor" ands }
	ands     = nots { "and" nots }
	nots     = "not" nots | test
	test     = sum [ ( "=" | "<>" | "<" | "<=" | ">" | ">=" | "starts" "with" | "ends" "with" | "contains" ) sum
	               | "is" [ "not" ] "null" | "in" "[" [ expr { "," expr } ] "]" ]
	sum      = product { ( "+" | "-" ) product }
	product  = minus { ( "*" | "/" | "%" ) minus }
	minus    = "-" minus | "-" number | atom
	atom     = small | imag | string | "null" | "true" | "false" | name [ "." name ] | call
	         | "(" expr ")" | "case" "when" expr "then" expr { "when" expr "then" expr } [ "else" expr ] "end"
	call     = ` + "( `re` | `im` | `conj` | `norm` | `len` | `abs` | `label` | `type` )" + ` "(" expr ")"
	         | ` + "`cpx`" + ` "(" expr "," expr ")" | ` + "`coalesce`" + ` "(" expr { "," expr } ")"
	         | ` + "`deg`" + ` "(" expr [ "," name ] ")" | ` + "`hops`" + ` "(" expr "," expr [ "," name ] ")"
	         | ` + "`dist`" + ` "(" expr "," expr "," name "," name ")"
	         | ` + "`count`" + ` "(" ( "*" | [ "distinct" ] expr ) ")" | ` + "( `sum` | `min` | `max` | `avg` )" + ` "(" [ "distinct" ] expr ")"`

// grammar: the ways in which each symbol can be written; what has none is a token.
type grammar map[string][][]string

// newGrammar: the rules of a text; brackets become symbols of their own.
func newGrammar(text string) grammar {
	g := grammar{}
	words := strings.Fields(text)
	for len(words) > 0 {
		symbol := words[0]
		words = g.rule(symbol, words[2:])
	}
	return g
}

// rule: adds the ways that stand at the words' beginning, and answers the words behind them.
func (g grammar) rule(symbol string, words []string) []string {
	way := []string{}
	for len(words) > 0 {
		switch w := words[0]; {
		case w == "]" || w == "}" || w == ")" || len(words) > 1 && words[1] == "=":
			g[symbol] = append(g[symbol], way)
			return words
		case w == "|":
			g[symbol] = append(g[symbol], way)
			way, words = []string{}, words[1:]
		case w == "[" || w == "{" || w == "(":
			inner := "#" + strconv.Itoa(len(g))
			g[inner] = nil // the name is taken
			words = g.rule(inner, words[1:])[1:]
			way = append(way, g.repeated(w, inner))
		default:
			way, words = append(way, w), words[1:]
		}
	}
	g[symbol] = append(g[symbol], way)
	return nil
}

// repeated: the symbol as often as the bracket says.
func (g grammar) repeated(bracket, inner string) string {
	if bracket == "(" {
		return inner
	}
	outer := inner + bracket
	g[outer] = [][]string{{}, {inner}}
	if bracket == "{" {
		g[outer][1] = []string{inner, outer}
	}
	return outer
}

// fits: can the token stand for that symbol?
func fits(symbol string, token api.Token) bool {
	n, _ := strconv.ParseUint(token.Text, 10, 64)
	isNumber := token.Kind == api.TokNumber
	from := func(least, most uint64) bool { return isNumber && least <= n && n <= most }
	switch symbol {
	case "end":
		return token.Kind == api.TokEnd
	case "name":
		return token.Kind == api.TokName
	case "imag":
		return token.Kind == api.TokImag
	case "string":
		return token.Kind == api.TokString
	case "number":
		return isNumber
	case "small":
		return from(0, math.MaxInt64)
	case "col":
		return from(1, 12)
	}
	for i, word := range strings.Fields("one two three four five") {
		if symbol == word {
			return from(uint64(i+1), uint64(i+1))
		}
		if symbol == "from"+word {
			return from(uint64(i+1), 5)
		}
	}
	if symbol[0] == '`' {
		return token.Kind == api.TokName && token.Text == strings.Trim(symbol, "`")
	}
	return (token.Kind == api.TokWord || token.Kind == api.TokMark) && token.Text == strings.Trim(symbol, `"`)
}

// spot: a way of a symbol that has been read so far, and where that began. (The rest of the way is what is still to be read.)
type spot struct {
	symbol   *symbol
	way, dot int
	began    int
}

// symbol: one of the grammar, with its ways; without any it is a token.
type symbol struct {
	name string
	ways [][]*symbol
}

// linked: the symbols of the grammar, by their names.
func (g grammar) linked() map[string]*symbol {
	out := map[string]*symbol{}
	get := func(name string) *symbol {
		if out[name] == nil {
			out[name] = &symbol{name: name}
		}
		return out[name]
	}
	for name, ways := range g {
		s := get(name)
		for _, way := range ways {
			list := []*symbol{}
			for _, w := range way {
				list = append(list, get(w))
			}
			s.ways = append(s.ways, list)
		}
	}
	return out
}

// rest: what is still to be read.
func (s spot) rest() []*symbol { return s.symbol.ways[s.way][s.dot:] }

// on: the spot behind its next symbol.
func (s spot) on() spot { return spot{s.symbol, s.way, s.dot + 1, s.began} }

// reading: goes along all readings of tokens at one time (as Earley's does): a column of spots ahead of the first token, and one behind each.
type reading struct {
	columns [][]spot
}

// newReading: of texts of the symbol's form.
func newReading(of *symbol) *reading {
	w := &reading{}
	column := []spot{}
	for way := range of.ways {
		column = append(column, spot{symbol: of, way: way})
	}
	w.columns = append(w.columns, w.closed(column))
	return w
}

// next: reads one token more; false: no text goes on with it, and it is not read.
func (w *reading) next(token api.Token) bool {
	var column []spot
	for _, s := range w.columns[len(w.columns)-1] {
		if rest := s.rest(); len(rest) > 0 && rest[0].ways == nil && fits(rest[0].name, token) {
			column = append(column, s.on())
		}
	}
	if len(column) > 0 {
		w.columns = append(w.columns, w.closed(column))
	}
	return len(column) > 0
}

// back: as if the last n tokens had not been read.
func (w *reading) back(n int) { w.columns = w.columns[:len(w.columns)-n] }

// closed: the next column, with all spots that follow from these without reading on.
func (w *reading) closed(column []spot) []spot {
	at := len(w.columns)
	seen := map[spot]bool{}
	empty := map[*symbol]bool{} // those that were read wholly without a token here
	var out []spot
	add := func(s spot) {
		if !seen[s] {
			seen[s] = true
			out = append(out, s)
		}
	}
	for _, s := range column {
		add(s)
	}
	for i := 0; i < len(out); i++ {
		s := out[i]
		rest := s.rest()
		switch {
		case len(rest) == 0:
			waiting := out
			if s.began < at {
				waiting = w.columns[s.began]
			} else {
				empty[s.symbol] = true
			}
			for _, w := range waiting {
				if more := w.rest(); len(more) > 0 && more[0] == s.symbol {
					add(w.on())
				}
			}
		case rest[0].ways != nil:
			for way := range rest[0].ways {
				add(spot{symbol: rest[0], way: way, began: at})
			}
			if empty[rest[0]] {
				add(s.on())
			}
		}
	}
	return out
}

// firstFault: the number of the first token with which no text of the symbol's form goes on; len(tokens) where there is none.
func firstFault(of *symbol, tokens []api.Token) int {
	w := newReading(of)
	for i, token := range tokens {
		if !w.next(token) {
			return i
		}
	}
	return len(tokens)
}

// drawn: the tokens of a text of the symbol's form; when the fuel is out, the shortest ways are gone.
func (g grammar) drawn(r *rand.Rand, known map[string]int, symbol string, fuel *int) []string {
	ways := g[symbol]
	if ways == nil {
		return []string{drawnToken(r, symbol)}
	}
	*fuel--
	way := ways[r.Intn(len(ways))]
	if *fuel < 0 {
		way = g.shortest(known, symbol)
	}
	var out []string
	for _, s := range way {
		out = append(out, g.drawn(r, known, s, fuel)...)
	}
	return out
}

// lengths: of the shortest text of each symbol, reckoned until nothing changes any more.
func (g grammar) lengths() map[string]int {
	out := map[string]int{}
	for changed := true; changed; {
		changed = false
		for symbol, ways := range g {
			for _, way := range ways {
				if n, ok := length(g, out, way); ok && (out[symbol] == 0 || n < out[symbol]) {
					out[symbol], changed = n, true
				}
			}
		}
	}
	return out
}

// length: of the shortest text of a way, one more for each symbol, so that none has 0; false: one of its symbols has none yet.
func length(g grammar, known map[string]int, way []string) (int, bool) {
	sum := 1
	for _, s := range way {
		n, ok := known[s]
		if g[s] != nil && !ok {
			return 0, false
		}
		sum += max(n, 1)
	}
	return sum, true
}

// shortest: the way of the symbol that ends soonest.
func (g grammar) shortest(known map[string]int, symbol string) []string {
	var best []string
	least := math.MaxInt
	for _, way := range g[symbol] {
		if n, _ := length(g, known, way); n < least {
			best, least = way, n
		}
	}
	return best
}

// drawnToken: a token that can stand for the symbol.
func drawnToken(r *rand.Rand, symbol string) string {
	pick := func(of ...string) string { return of[r.Intn(len(of))] }
	switch symbol {
	case "end":
		return ""
	case "name":
		return pick("a", "b", "c", "k", "n1", "re", "count", "coalesce", "dist")
	case "imag":
		return pick("0i", "3i", "33554432i")
	case "string":
		return pick("''", "'a'", `'it\'s'`, "'match'", "'('", `'\x00é'`)
	case "number", "small":
		return pick("0", "1", "2", "07", "42", "9223372036854775807")
	case "col":
		return pick("1", "2", "12")
	}
	for i, word := range strings.Fields("one two three four five") {
		if strings.TrimPrefix(symbol, "from") == word {
			return strconv.Itoa(i + 1)
		}
	}
	return strings.Trim(symbol, "`\"")
}
