package syntax

import (
	"strconv"
	"strings"

	"trellis/api"
	"trellis/value"
)

// wideMark: stands for a mark of two bytes, as long as a token is being read.
const wideMark = api.TokEnd + 1

// maxWhole: the greatest number that a text may have; only a minus sign ahead of it makes a value of it.
const maxWhole = 1 << 63

// afterBlanks: the first place, from the given one on, with neither a blank nor a comment.
func afterBlanks(text string, at int) int {
	for at < len(text) {
		switch {
		case strings.IndexByte(" \t\n\r", text[at]) >= 0:
			at++
		case strings.HasPrefix(text[at:], "//"):
			at = endOfLine(text, at)
		default:
			return at
		}
	}
	return at
}

// endOfLine: the place of the next line feed, or the text's end.
func endOfLine(text string, at int) int {
	if n := strings.IndexByte(text[at:], '\n'); n >= 0 {
		return at + n
	}
	return len(text)
}

// tokenAt: the token that begins at the place, where neither a blank nor a comment stands, and the place behind it; or what is wrong there.
func tokenAt(text string, at int) (api.Token, int, fault) {
	kind, end := kindAt(text, at), at
	most := uint64(maxWhole)
	switch kind {
	case api.TokEnd:
	case api.TokName:
		end = endOfRun(text, at, isLetterOrDigit)
		if end-at > api.MaxName {
			return api.Token{}, 0, fault{api.ErrLong, at}
		}
		if isWord(text[at:end]) {
			kind = api.TokWord
		}
	case api.TokImag: // its beginning is a number, of fewer that are allowed
		most = api.MaxPart
		end++
		fallthrough
	case api.TokNumber:
		digits := endOfRun(text, at, isDigit)
		if n, err := strconv.ParseUint(text[at:digits], 10, 64); err != nil || n > most {
			return api.Token{}, 0, fault{api.ErrLong, at}
		}
		end += digits - at
		if end < len(text) && isLetter(text[end]) {
			return api.Token{}, 0, fault{api.ErrChar, end}
		}
	case api.TokString:
		return stringAt(text, at)
	case wideMark: // its beginning is a mark of one byte
		kind = api.TokMark
		end++
		fallthrough
	case api.TokMark:
		end++
	default:
		return api.Token{}, 0, fault{api.ErrChar, at}
	}
	return api.Token{Kind: kind, Text: text[at:end], At: at}, end, fault{}
}

// kindAt: the kind of the token that begins at the place; 0 where none can begin. (A word is still a name here.)
func kindAt(text string, at int) int {
	switch {
	case at == len(text):
		return api.TokEnd
	case isLetter(text[at]):
		return api.TokName
	case isDigit(text[at]):
		return kindOfNumber(text, endOfRun(text, at, isDigit))
	case text[at] == '\'':
		return api.TokString
	}
	return kindOfMark(text[at:])
}

// kindOfNumber: the kind of digits that end at the place.
func kindOfNumber(text string, end int) int {
	if end < len(text) && text[end] == 'i' && endOfRun(text, end, isLetterOrDigit) == end+1 {
		return api.TokImag
	}
	return api.TokNumber
}

// kindOfMark: the kind of the mark that the text begins with; 0 where there is none.
func kindOfMark(text string) int {
	for _, m := range marks {
		if strings.HasPrefix(text, m) {
			if len(m) == 2 {
				return wideMark
			}
			return api.TokMark
		}
	}
	return 0
}

// stringAt: the string whose first quote stands at the place, and the place behind it.
func stringAt(text string, at int) (api.Token, int, fault) {
	end := afterQuote(text, at+1)
	v, code := value.Scan(text[at:end])
	if code != api.OK {
		return api.Token{}, 0, fault{api.ErrChar, at}
	}
	return api.Token{Kind: api.TokString, Text: v.S, At: at}, end, fault{}
}

// afterQuote: the place behind the next quote that isn't escaped; the text's end, if there is none.
func afterQuote(text string, at int) int {
	for at < len(text) {
		switch text[at] {
		case '\'':
			return at + 1
		case '\\':
			at++
		}
		at++
	}
	return len(text)
}

// endOfRun: the first place, from the given one on, whose byte is not of the kind.
func endOfRun(text string, at int, of func(c byte) bool) int {
	for at < len(text) && of(text[at]) {
		at++
	}
	return at
}

func isLetter(c byte) bool        { return 'a' <= c && c <= 'z' }
func isDigit(c byte) bool         { return '0' <= c && c <= '9' }
func isLetterOrDigit(c byte) bool { return isLetter(c) || isDigit(c) }
