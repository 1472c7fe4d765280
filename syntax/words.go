package syntax

import "trellis/api"

// words: those of the language: none of them is a name.
var words = [...]string{
	"match", "optional", "where", "create", "merge", "set", "remove", "delete", "detach", "abort",
	"with", "return", "distinct", "as", "order", "by", "asc", "desc", "skip", "limit",
	"and", "or", "xor", "not", "is", "null", "true", "false", "in", "starts", "ends", "contains",
	"case", "when", "then", "else", "end",
}

// marks: those of two bytes first, since a token is as long as it can be.
var marks = [...]string{
	"..", "<>", "<=", ">=",
	"(", ")", "[", "]", "{", "}", ",", ";", ":", ".", "*", "+", "-", "/", "%", "=", "<", ">",
}

// How tightly the forms of expressions bind: the greater, the tighter.
const (
	rankOr = 1 + iota
	rankXor
	rankAnd
	rankNot
	rankTest
	rankSum
	rankProduct
	rankMinus
	rankAtom
)

// ranks: by the Op of an expression; 0 where its Sub says it.
var ranks = [...]int{
	api.ELit:  rankAtom,
	api.EVar:  rankAtom,
	api.EProp: rankAtom,
	api.ENull: rankTest,
	api.ECall: rankAtom,
	api.EAgg:  rankAtom,
	api.ECase: rankAtom,
	api.EIn:   rankTest,
}

// operator: how an operation stands in a text, and how tightly it binds. with: that word stands behind it.
type operator struct {
	text string
	rank int
	with bool
}

// signs: the operators ahead of one expression, by their Sub.
var signs = [...]operator{
	api.UNeg: {text: "-", rank: rankMinus},
	api.UNot: {text: "not", rank: rankNot},
}

// operators: those between two expressions, by their Sub. (api.BCpx is written as a call.)
var operators = [...]operator{
	api.BAdd:  {text: "+", rank: rankSum},
	api.BSub:  {text: "-", rank: rankSum},
	api.BMul:  {text: "*", rank: rankProduct},
	api.BDiv:  {text: "/", rank: rankProduct},
	api.BMod:  {text: "%", rank: rankProduct},
	api.BEq:   {text: "=", rank: rankTest},
	api.BNe:   {text: "<>", rank: rankTest},
	api.BLt:   {text: "<", rank: rankTest},
	api.BLe:   {text: "<=", rank: rankTest},
	api.BGt:   {text: ">", rank: rankTest},
	api.BGe:   {text: ">=", rank: rankTest},
	api.BAnd:  {text: "and", rank: rankAnd},
	api.BOr:   {text: "or", rank: rankOr},
	api.BXor:  {text: "xor", rank: rankXor},
	api.BStar: {text: "starts", rank: rankTest, with: true},
	api.BEnds: {text: "ends", rank: rankTest, with: true},
	api.BHas:  {text: "contains", rank: rankTest},
}

// function: what stands in the brackets behind its name: at least and at most so many expressions, then names: so many that must stand there, and so many that may.
type function struct {
	name        string
	least, most int
	needs, may  int
}

// functions: by their Sub.
var functions = [...]function{
	api.FRe:       {name: "re", least: 1, most: 1},
	api.FIm:       {name: "im", least: 1, most: 1},
	api.FConj:     {name: "conj", least: 1, most: 1},
	api.FNorm:     {name: "norm", least: 1, most: 1},
	api.FLen:      {name: "len", least: 1, most: 1},
	api.FAbs:      {name: "abs", least: 1, most: 1},
	api.FCpx:      {name: "cpx", least: 2, most: 2},
	api.FLabel:    {name: "label", least: 1, most: 1},
	api.FType:     {name: "type", least: 1, most: 1},
	api.FDeg:      {name: "deg", least: 1, most: 1, may: 1},
	api.FDist:     {name: "dist", least: 2, most: 2, needs: 2, may: 2},
	api.FHops:     {name: "hops", least: 2, most: 2, may: 1},
	api.FCoalesce: {name: "coalesce", least: 1, most: api.MaxArgs},
}

// aggregates: their names, by their Sub.
var aggregates = [...]string{
	api.GCount: "count",
	api.GSum:   "sum",
	api.GMin:   "min",
	api.GMax:   "max",
	api.GAvg:   "avg",
}

// isWord: is it a word of the language?
func isWord(text string) bool {
	for _, w := range words {
		if w == text {
			return true
		}
	}
	return false
}
