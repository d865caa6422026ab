package tests

import (
	"regexp"
	"slices"
	"strconv"
	"strings"
	"testing"

	"loop.example/kilnclay/impl"
)

// The document's forms, written a second time so that Scan can be held against them.
var (
	gapForm    = regexp.MustCompile(`^(?:[ \n]|#[^\n]*)+`)
	nameForm   = regexp.MustCompile(`^[a-z_][a-z0-9_]*`)
	digitsForm = regexp.MustCompile(`^[0-9][0-9a-z_]*`)
	numberForm = regexp.MustCompile(`^(?:0|[1-9][0-9]*)$`)
	textForm   = regexp.MustCompile(`^"(?:[ !#-\[\]-~]|\\[0-9a-f][0-9a-f])*"`)
	escapeForm = regexp.MustCompile(`\\[0-9a-f][0-9a-f]`)
	markForm   = regexp.MustCompile(`^(?:==|!=|<=|>=|=>|[][(){},;:.=<>+*/%-])`)
)

// formToken is the token at the beginning of rest and its size, or a code.
func formToken(rest string) (impl.Token, int, int) {
	if digits := digitsForm.FindString(rest); digits != "" {
		n, err := strconv.ParseUint(digits, 10, 63)
		if err != nil || !numberForm.MatchString(digits) {
			return impl.Token{}, 0, 3
		}
		return numberAt(int64(n), 0), len(digits), 0
	}
	if found := nameForm.FindString(rest); found != "" {
		if len(found) > impl.MaxName {
			return impl.Token{}, 0, 5
		}
		if slices.Contains(words(), found) {
			return wordAt(found, 0), len(found), 0
		}
		return nameAt(found, 0), len(found), 0
	}
	if rest[0] == '"' {
		quoted := textForm.FindString(rest)
		if quoted == "" {
			return impl.Token{}, 0, 4
		}
		meant := escapeForm.ReplaceAllStringFunc(quoted[1:len(quoted)-1], func(escape string) string {
			b, _ := strconv.ParseUint(escape[1:], 16, 8)
			return string([]byte{byte(b)})
		})
		if len(meant) > impl.MaxText {
			return impl.Token{}, 0, 5
		}
		return textAt(meant, 0), len(quoted), 0
	}
	if found := markForm.FindString(rest); found != "" {
		return markAt(found, 0), len(found), 0
	}
	return impl.Token{}, 0, 2
}

func formTokens(src string) ([]impl.Token, impl.Fault) {
	var tokens []impl.Token
	if len(src) > impl.MaxSrc {
		return nil, impl.Fault{Code: 1}
	}
	for at := 0; ; {
		at += len(gapForm.FindString(src[at:]))
		if at == len(src) {
			return tokens, impl.Fault{}
		}
		token, size, code := formToken(src[at:])
		if code != 0 {
			return nil, impl.Fault{Code: code, At: at}
		}
		token.At = at
		tokens = append(tokens, token)
		at += size
	}
}

func checkForms(t *testing.T, src string) {
	t.Helper()
	got, fault := impl.Scan(src)
	want, wantedFault := formTokens(src)
	if fault != wantedFault || !slices.Equal(got, want) {
		t.Fatalf("Scan(%q): got %+v, %+v; want %+v, %+v", src, got, fault, want, wantedFault)
	}
	checkPieces(t, src)
}

// everyText calls do with each text of at most size pieces.
func everyText(pieces []string, size int, do func(string)) {
	var grow func(string, int)
	grow = func(src string, left int) {
		do(src)
		if left == 0 {
			return
		}
		for _, piece := range pieces {
			grow(src+piece, left-1)
		}
	}
	grow("", size)
}

func TestScanEveryShortText(t *testing.T) {
	bytes := strings.Split("a f i _ 0 1 9 \" \\ # = ! < > - . [ A @ \t", " ")
	everyText(append(bytes, " ", "\n", "\x80"), 4, func(src string) { checkForms(t, src) })
}

func TestScanEveryShortRow(t *testing.T) {
	rows := []string{"if", "iffy", "x_1", "0", "10", "007", "9223372036854775807", "9223372036854775808", `""`, `"a\22# "`, `"\ff\0a"`, `"\g0"`, "# n\n", " ", "==", "=>", "<", "!=", "(", "%",
		strings.Repeat("n", impl.MaxName), `"` + strings.Repeat("x", impl.MaxText) + `"`}
	everyText(rows, 3, func(src string) { checkForms(t, src) })
}
