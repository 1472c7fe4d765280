package syntax_test

import (
	"strings"
	"testing"

	"trellis/api"
	"trellis/syntax"
)

// limit: a list in a text: what stands ahead of it, one element, what stands between two, what stands behind it, how many there may be; wrong: tokens that cannot stand where one more begins.
type limit struct {
	ahead, one, between, behind string
	most                        int
	wrong                       string
}

// limits: every list that has a limit. (Those whose elements begin with a token that nothing else begins with have no wrong ones.)
var limits = []limit{
	{"match ", "(a)", ", ", " return 1", api.MaxPaths, "a [ - 1 match where , )"},
	{"match (a) match (a) optional match ", "(a)-->()", ",", " where a abort", api.MaxPaths, "a [ - 1 match where , )"},
	{"match ()", "-[]->()", "", " return 1", api.MaxHops, ""},
	{"create ()", "<--()", "", " return 1", api.MaxHops, ""},
	{"", "match (a)", " ", " return 1", api.MaxMatch, ""},
	{"with a ", "optional match (a)", " ", " abort", api.MaxMatch, ""},
	{"", "abort", " ", "", api.MaxActions, ""},
	{"", "create (a)", " ", "", api.MaxActions, ""},
	{"", "merge (a)", " ", "", api.MaxActions, ""},
	{"", "set a.k = 1", " ", "", api.MaxActions, ""},
	{"", "remove a.k", " ", "", api.MaxActions, ""},
	{"", "delete a", " ", "", api.MaxActions, ""},
	{"", "detach delete a", " ", " return 1", api.MaxActions, ""},
	{"create ", "(a)", ", ", "", api.MaxActions, "a [ - 1 create , )"},
	{"merge ", "(a)", ", ", "", api.MaxActions, "a [ - 1 merge , )"},
	{"set ", "a.k = 1", ", ", "", api.MaxActions, "( 1 'a' set . match null"},
	{"remove ", "a.k", ", ", "", api.MaxActions, "( 1 'a' remove . match null"},
	{"delete ", "a", ", ", "", api.MaxActions, "( 1 'a' delete . match null"},
	{"detach delete ", "a", ", ", " with a return 1", api.MaxActions, "( 1 'a' delete . match null"},
	{"return ", "1", ", ", "", api.MaxItems, "match , ) * distinct 9223372036854775808 as . ]"},
	{"return distinct ", "a.k as k", ", ", " limit 1", api.MaxItems, "match , ) * distinct 9223372036854775808 as . ]"},
	{"with ", "a", ", ", " return 1", api.MaxItems, "match , ) * distinct 9223372036854775808 as . ]"},
	{"return 1 order by ", "a", ", ", "", api.MaxItems, "match , ( - 0 13 9223372036854775808 'a' 1i null"},
	{"return 1 order by ", "12 desc", ", ", " skip 1", api.MaxItems, "match , ( - 0 13 9223372036854775808 'a' 1i null"},
	{"with a order by ", "a asc", ", ", " where a return 1", api.MaxItems, "match , ( - 0 13 9223372036854775808 'a' 1i null"},
	{"match ({", "k: 1", ", ", "}) return 1", api.MaxProps, "1 'k' match : } , ("},
	{"match ()-[{", "k: 1", ", ", "}]-() return 1", api.MaxProps, "1 'k' match : } , ("},
	{"merge (a {", "k: 1", ", ", "})", api.MaxProps, "1 'k' match : } , ("},
	{"return coalesce(", "a", ", ", ")", api.MaxArgs, "match , ) * distinct 9223372036854775808 ]"},
	{"return 1 in [", "a", ", ", "]", api.MaxArgs - 1, "match , ) * distinct 9223372036854775808 ]"},
	{"return 1 + case ", "when a then b", " ", " end", 4, ""},
	{"return case ", "when a then b", " ", " else c end", 4, ""},
	{"", "with a", " ", " return 1", api.MaxParts - 1, ""},
	{"", "match (a) abort with a", " ", " abort", api.MaxParts - 1, ""},
}

// place: where the element that is one too many begins; of a part its with.
func (l limit) place() int {
	at := len(l.ahead) + l.most*len(l.one+l.between)
	if n := strings.Index(l.one, "with"); n > 0 {
		at += n
	}
	return at
}

func TestP1003Many(t *testing.T) {
	for _, l := range limits {
		text := l.ahead + row(l.most, l.one, l.between) + l.behind
		if _, code, at := syntax.Parse(text); code != api.OK {
			t.Errorf("%q: %d at %d", text, code, at)
		}
		fails(t, l.ahead+row(l.most+1, l.one, l.between)+l.behind, api.ErrMany, l.place())
		fails(t, l.ahead+row(l.most+2, l.one, l.between)+l.behind, api.ErrMany, l.place())
		fails(t, l.ahead+row(l.most+1, l.one, l.between)+" ] ] ]", api.ErrMany, l.place())
		for _, wrong := range strings.Fields(l.wrong) {
			fails(t, l.ahead+row(l.most, l.one, l.between)+l.between+wrong, api.ErrSyntax, len(l.ahead)+l.most*len(l.one+l.between))
		}
		if l.wrong != "" {
			text := strings.TrimRight(l.ahead+row(l.most, l.one, l.between)+l.between, " ")
			fails(t, text, api.ErrSyntax, len(text))
		}
	}
}

// TestP1003ManyQueries: the seventeenth query, whatever it begins with; a semicolon behind the sixteenth is none.
func TestP1003ManyQueries(t *testing.T) {
	sixteen := row(16, "abort", "; ")
	for _, text := range []string{sixteen, sixteen + ";"} {
		qs, code, at := syntax.Program(text)
		told(t, text, code, at, api.OK, 0)
		same(t, "queries", len(qs), 16)
	}
	for _, first := range strings.Fields("optional match create merge set remove detach delete abort with return") {
		failsProgram(t, sixteen+"; "+first, api.ErrMany, len(sixteen)+2)
		failsProgram(t, sixteen+"; "+first+" ] ]", api.ErrMany, len(sixteen)+2)
	}
	for _, wrong := range strings.Fields("5 a ( ; where 'match' distinct null") {
		failsProgram(t, sixteen+"; "+wrong, api.ErrSyntax, len(sixteen)+2)
	}
}

// TestP1003ManyActions: the actions of a part count together, whatever their words are; those of another part do not.
func TestP1003ManyActions(t *testing.T) {
	fifteen := "create (a), (b), (c) merge (d), (e) set a.k = 1, b.k = 2 remove a.k, b.k, c.k delete a, b detach delete c, d abort"
	q, _, _ := syntax.Parse(fifteen)
	same(t, "actions", len(q.Parts[0].Actions), 15)
	for _, more := range []string{"create (a)", "merge (a)", "set a.k = 1", "remove a.k", "delete a", "detach delete a", "abort"} {
		text := fifteen + " " + more
		if _, code, at := syntax.Parse(text); code != api.OK {
			t.Errorf("%q: %d at %d", text, code, at)
		}
		for _, last := range strings.Fields("create merge set remove detach delete abort") {
			fails(t, text+" "+last, api.ErrMany, len(text)+1)
		}
		fails(t, text+" match", api.ErrSyntax, len(text)+1)
	}
	for more, one := range map[string]string{"create (a)": "(b)", "merge (a)": "(b)", "set a.k = 1": "b", "remove a.k": "b", "delete a": "b", "detach delete a": "b"} {
		text := fifteen + " " + more + ","
		fails(t, text+one, api.ErrMany, len(text))
		fails(t, text+"]", api.ErrSyntax, len(text))
	}
	text := row(4, fifteen+" abort", " with a ")
	if _, code, at := syntax.Parse(text); code != api.OK {
		t.Errorf("four parts of 16 actions: %d at %d", code, at)
	}
}

func TestP1003Deep(t *testing.T) {
	for _, c := range []struct{ ahead, deeper, core, behind string }{
		{"", "-", "a", ""}, {"", "not ", "a", ""}, {"", "re(", "1", ")"}, {"", "coalesce(1, ", "a", ")"}, {"", "count(", "1", ")"}, {"", "1 + (", "a", ")"}, {"", "1 in [", "a", "]"}, {"", "case when ", "1", " then 2 end"}, {"", "case when 1 then 2 else ", "3", " end"}, {"", "(", "a", ") = 1"}, {"", "(", "a", ") is null"}, {"", "a and (", "b", ")"}, {"", "deg(", "a", ", t)"}, {"", "sum(distinct ", "a", ")"}, {"", "-", "-1", ""},
	} {
		fine := strings.Repeat(c.deeper, 23) + c.core + strings.Repeat(c.behind, 23)
		deep := strings.Repeat(c.deeper, 24) + c.core + strings.Repeat(c.behind, 24)
		if _, code, at := syntax.ParseExpr(fine); code != api.OK {
			t.Errorf("%q: %d at %d", fine, code, at)
		}
		failsExpr(t, deep, api.ErrDeep, 0)
		failsExpr(t, " ("+deep+")", api.ErrDeep, 1)
		failsExpr(t, deep+" ]", api.ErrDeep, 0)
		failsExpr(t, "("+deep+" ]", api.ErrSyntax, len(deep)+2)
		for _, around := range []string{"return ", "return 1, ", "return a, b as c, ", "with a where ", "match (a) where ", "match (a {k: ", "match (a)-[{j: 1, k: ", "create (a {k: ", "merge (a), (b {k: ", "set a.k = ", "set a.k = 1, b.k = ", "with a, ", "match (a), (b {k: 1})-->({k: "} {
			fails(t, around+deep+" ] ]", api.ErrDeep, len(around))
			fails(t, around+fine+" ] ]", api.ErrSyntax, len(around+fine)+1)
		}
	}
	failsExpr(t, row(25, "1", " * "), api.ErrDeep, 0)
	failsExpr(t, row(25, "a", " or "), api.ErrDeep, 0)
	failsExpr(t, "("+row(25, "1", " * ")+") = 1 = 2", api.ErrDeep, 0)
	failsExpr(t, strings.Repeat("(", 1000)+row(25, "1", "+")+strings.Repeat(")", 1000), api.ErrDeep, 0)
	reads(t, strings.Repeat("(", 2047)+"1"+strings.Repeat(")", 2047), num(1))
}

// TestP1003DeepIsLate: a fault inside of an expression comes ahead of its depth, its depth ahead of what stands behind it.
func TestP1003DeepIsLate(t *testing.T) {
	deep := row(30, "1", " + ")
	failsExpr(t, deep+" +", api.ErrSyntax, len(deep)+2)
	failsExpr(t, deep+" + match", api.ErrSyntax, len(deep)+3)
	failsExpr(t, deep+" + coalesce("+row(10, "1", ",")+")", api.ErrMany, len(deep)+3+9+18)
	fails(t, "with "+deep+" return 1", api.ErrDeep, 5)
	fails(t, "with "+deep+" as match return 1", api.ErrDeep, 5)
	fails(t, "return "+row(12, "1", ",")+","+deep, api.ErrMany, 7+24)
	fails(t, "return "+row(11, "1", ",")+","+deep+",1", api.ErrDeep, 7+22)
	fails(t, "match (a {k: "+deep+" ", api.ErrDeep, 13)
}

// TestP1003FirstFault: of several faults the one that is met first.
func TestP1003FirstFault(t *testing.T) {
	fails(t, "match (a), (b), (c), (d), (e), (f) return match", api.ErrMany, 26)
	fails(t, "match (a), (b), (c), (d) return match, "+row(13, "1", ","), api.ErrSyntax, 32)
	fails(t, row(5, "match (a)", " ")+" where", api.ErrMany, 40)
	fails(t, "with a with a with a match (b), with", api.ErrSyntax, 32)
	fails(t, "with a with a with a with 1 return", api.ErrMany, 21)
	fails(t, "with a with a with 1 with a return", api.ErrSyntax, 21)
}
