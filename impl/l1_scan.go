// Package impl: a language that says what is to be built.
package impl

import (
	"iter"
	"strconv"
	"strings"
)

// Limits of scanning.
const (
	MaxSrc  = 8000
	MaxName = 30
	MaxText = 1000
)

// Kinds of tokens.
const (
	TokName = 1
	TokWord = 2
	TokInt  = 3
	TokText = 4
	TokMark = 5
)

// Codes of the faults of scanning; 0 is none.
const (
	faultSource = 1
	faultStart  = 2
	faultNumber = 3
	faultText   = 4
	faultLong   = 5
)

// hexDigits write, two of them behind a \, a byte of a text.
const hexDigits = "0123456789abcdef"

// Token is a piece of a package's text.
type Token struct {
	Kind int
	Text string
	N    int64
	At   int
}

// Fault says what is wrong, and where.
type Fault struct {
	Code int
	At   int
}

// Scan cuts a text into tokens.
func Scan(src string) ([]Token, Fault) {
	if len(src) > MaxSrc {
		return nil, Fault{Code: faultSource}
	}
	var tokens []Token
	for token, code := range eachToken(src) {
		if code != 0 {
			return nil, Fault{Code: code, At: token.At}
		}
		tokens = append(tokens, token)
	}
	return tokens, Fault{}
}

// eachToken hands on the tokens of src in order, each with code 0. The first
// place at which there is none comes last, as a token with At alone and its code.
func eachToken(src string) iter.Seq2[Token, int] {
	return func(yield func(Token, int) bool) {
		words := wordSet()
		at := 0
	scanning:
		for {
			for {
				if at == len(src) {
					break scanning
				}
				gap := gapSize(src[at:])
				if gap == 0 {
					break
				}
				at += gap
			}
			token, size, code := readToken(src[at:], words)
			token.At = at
			if !yield(token, code) || code != 0 {
				break scanning
			}
			at += size
		}
	}
}

// gapSize is the size of the space, newline or note with which rest begins, 0
// if it begins with none.
func gapSize(rest string) int {
	switch rest[0] {
	case ' ', '\n':
		return 1
	case '#':
		if end := strings.IndexByte(rest, '\n'); end >= 0 {
			return end
		}
		return len(rest)
	}
	return 0
}

// readToken reads the token with which rest, which is not empty, begins: the
// token without its place, its size and 0; or nothing and a code.
func readToken(rest string, words map[string]struct{}) (Token, int, int) {
	switch first := rest[0]; {
	case isDigit(first):
		return readNumber(rest)
	case isNameByte(first):
		return readName(rest, words)
	case first == '"':
		return readText(rest)
	}
	return readMark(rest)
}

// readNumber takes all bytes that a name may have, not the digits alone: none
// of the others may follow a number, so a piece that has one is no number.
func readNumber(rest string) (Token, int, int) {
	size := nameSize(rest)
	n, err := strconv.ParseInt(rest[:size], 10, 64)
	if err != nil || rest[0] == '0' && size > 1 {
		return Token{}, 0, faultNumber
	}
	return Token{Kind: TokInt, N: n}, size, 0
}

func readName(rest string, words map[string]struct{}) (Token, int, int) {
	size := nameSize(rest)
	if size > MaxName {
		return Token{}, 0, faultLong
	}
	kind := TokName
	if _, found := words[rest[:size]]; found {
		kind = TokWord
	}
	return newToken(kind, rest[:size]), size, 0
}

// readText looks at the size only when the text has ended: one that is both too
// long and not written as a text has the lesser code.
func readText(rest string) (Token, int, int) {
	var text []byte
	for at := 1; at < len(rest); {
		switch b := rest[at]; {
		case b == '"' && len(text) > MaxText:
			return Token{}, 0, faultLong
		case b == '"':
			return Token{Kind: TokText, Text: string(text)}, at + 1, 0
		case b == '\\':
			meant, ok := hexByte(rest[at+1:])
			if !ok {
				return Token{}, 0, faultText
			}
			text = append(text, meant)
			at += 3
		case b < 32 || b > 126:
			return Token{}, 0, faultText
		default:
			text = append(text, b)
			at++
		}
	}
	return Token{}, 0, faultText
}

func readMark(rest string) (Token, int, int) {
	size := markSize(rest)
	if size == 0 {
		return Token{}, 0, faultStart
	}
	return newToken(TokMark, rest[:size]), size, 0
}

// newToken copies the text, so that an answer keeps nothing of the source.
func newToken(kind int, text string) Token {
	return Token{Kind: kind, Text: strings.Clone(text)}
}

// markSize asks for the longer marks first, as a token is as long as it can be.
func markSize(rest string) int {
	if len(rest) > 1 {
		switch rest[:2] {
		case "==", "!=", "<=", ">=", "=>":
			return 2
		}
	}
	if strings.IndexByte("()[]{},;:.=<>+-*/%", rest[0]) >= 0 {
		return 1
	}
	return 0
}

// nameSize is how many of the first bytes of rest a name may have.
func nameSize(rest string) int {
	size := 0
	for size < len(rest) && isNameByte(rest[size]) {
		size++
	}
	return size
}

// hexByte is the byte that the first two bytes of rest, digits, stand for.
func hexByte(rest string) (byte, bool) {
	if len(rest) < 2 {
		return 0, false
	}
	high := strings.IndexByte(hexDigits, rest[0])
	low := strings.IndexByte(hexDigits, rest[1])
	if high < 0 || low < 0 {
		return 0, false
	}
	return byte(high*16 + low), true
}

func isDigit(b byte) bool {
	return '0' <= b && b <= '9'
}

func isNameByte(b byte) bool {
	return 'a' <= b && b <= 'z' || b == '_' || isDigit(b)
}

// wordSet are the words, which are no names.
func wordSet() map[string]struct{} {
	return map[string]struct{}{
		"and": {}, "def": {}, "else": {}, "emit": {}, "false": {}, "fn": {},
		"for": {}, "has": {}, "if": {}, "in": {}, "let": {}, "load": {},
		"none": {}, "not": {}, "or": {}, "then": {}, "true": {},
	}
}
