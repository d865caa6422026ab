package tests

import (
	"slices"
	"strconv"
	"strings"
	"testing"

	"loop.example/kilnclay/impl"
)

func nameAt(text string, at int) impl.Token {
	return impl.Token{Kind: impl.TokName, Text: text, At: at}
}

func wordAt(text string, at int) impl.Token {
	return impl.Token{Kind: impl.TokWord, Text: text, At: at}
}

func numberAt(n int64, at int) impl.Token {
	return impl.Token{Kind: impl.TokInt, N: n, At: at}
}

func textAt(text string, at int) impl.Token {
	return impl.Token{Kind: impl.TokText, Text: text, At: at}
}

func markAt(text string, at int) impl.Token {
	return impl.Token{Kind: impl.TokMark, Text: text, At: at}
}

func wantTokens(t *testing.T, src string, want ...impl.Token) {
	t.Helper()
	got, fault := impl.Scan(src)
	if fault != (impl.Fault{}) || !slices.Equal(got, want) {
		t.Errorf("Scan(%.60q): got %+v, %+v; want %+v", src, got, fault, want)
	}
}

func wantFault(t *testing.T, src string, code, at int) {
	t.Helper()
	got, fault := impl.Scan(src)
	if fault != (impl.Fault{Code: code, At: at}) || len(got) != 0 {
		t.Errorf("Scan(%.60q): got %+v, %+v; want no tokens and code %d at %d", src, got, fault, code, at)
	}
}

func words() []string {
	return strings.Fields("and def else emit false fn for has if in let load none not or then true")
}

func marks() []string {
	return strings.Fields("( ) [ ] { } , ; : . = == != < <= > >= + - * / % =>")
}

func TestScanConstants(t *testing.T) {
	limits := [3]int{impl.MaxSrc, impl.MaxName, impl.MaxText}
	if limits != [3]int{8000, 30, 1000} {
		t.Errorf("limits: %v", limits)
	}
	kinds := [5]int{impl.TokName, impl.TokWord, impl.TokInt, impl.TokText, impl.TokMark}
	if kinds != [5]int{1, 2, 3, 4, 5} {
		t.Errorf("kinds: %v", kinds)
	}
}

func TestScanEachKind(t *testing.T) {
	wantTokens(t, "")
	wantTokens(t, `def f(a_1, _ = 20) = {x: "y"};`,
		wordAt("def", 0), nameAt("f", 4), markAt("(", 5), nameAt("a_1", 6), markAt(",", 9), nameAt("_", 11),
		markAt("=", 13), numberAt(20, 15), markAt(")", 17), markAt("=", 19), markAt("{", 21), nameAt("x", 22),
		markAt(":", 23), textAt("y", 25), markAt("}", 28), markAt(";", 29))
	for _, w := range words() {
		wantTokens(t, " "+w, wordAt(w, 1))
		wantTokens(t, w+"_", nameAt(w+"_", 0))
		wantTokens(t, w+"0", nameAt(w+"0", 0))
		wantTokens(t, "_"+w, nameAt("_"+w, 0))
		wantTokens(t, w[:len(w)-1]+"z", nameAt(w[:len(w)-1]+"z", 0))
	}
	for _, m := range marks() {
		wantTokens(t, "\n"+m, markAt(m, 1))
	}
	wantTokens(t, "_ _0 a09z_ files len", nameAt("_", 0), nameAt("_0", 2), nameAt("a09z_", 5), nameAt("files", 11), nameAt("len", 17))
	wantTokens(t, "0 7 10 900", numberAt(0, 0), numberAt(7, 2), numberAt(10, 4), numberAt(900, 7))
}

func TestScanGaps(t *testing.T) {
	for _, src := range []string{" ", "\n", " \n\n ", "#", "# @ \" \\ A", "#\n", "##\n # \t\r\x00\xff\n", "# a\n# b"} {
		wantTokens(t, src)
	}
	wantTokens(t, "a# b\nc", nameAt("a", 0), nameAt("c", 5))
	wantTokens(t, "1#2\n3", numberAt(1, 0), numberAt(3, 4))
	wantTokens(t, "a #\n\n  #\nb#", nameAt("a", 0), nameAt("b", 9))
	wantTokens(t, "=# c\n=", markAt("=", 0), markAt("=", 5))
	wantTokens(t, `"# no note" b`, textAt("# no note", 0), nameAt("b", 12))
	wantFault(t, "# fine\n@", 2, 7)
}

func TestScanLongestToken(t *testing.T) {
	wantTokens(t, "iffy", nameAt("iffy", 0))
	wantTokens(t, "if fy", wordAt("if", 0), nameAt("fy", 3))
	wantTokens(t, "a1b2", nameAt("a1b2", 0))
	wantTokens(t, "12 3", numberAt(12, 0), numberAt(3, 3))
	wantTokens(t, "===", markAt("==", 0), markAt("=", 2))
	wantTokens(t, "=>=", markAt("=>", 0), markAt("=", 2))
	wantTokens(t, "==>", markAt("==", 0), markAt(">", 2))
	wantTokens(t, "=<=", markAt("=", 0), markAt("<=", 1))
	wantTokens(t, "<=>=", markAt("<=", 0), markAt(">=", 2))
	wantTokens(t, ">>=", markAt(">", 0), markAt(">=", 1))
	wantTokens(t, "<==", markAt("<=", 0), markAt("=", 2))
	wantTokens(t, "!==", markAt("!=", 0), markAt("=", 2))
	wantTokens(t, "= =", markAt("=", 0), markAt("=", 2))
	wantTokens(t, "--1", markAt("-", 0), markAt("-", 1), numberAt(1, 2))
	wantTokens(t, `"a""b"`, textAt("a", 0), textAt("b", 3))
	wantTokens(t, `a"b"1"c"d`, nameAt("a", 0), textAt("b", 1), numberAt(1, 4), textAt("c", 5), nameAt("d", 8))
	wantTokens(t, "1.2", numberAt(1, 0), markAt(".", 1), numberAt(2, 2))
	wantTokens(t, "1<2", numberAt(1, 0), markAt("<", 1), numberAt(2, 2))
}

func TestScanNumberEdges(t *testing.T) {
	wantTokens(t, "9223372036854775807", numberAt(9223372036854775807, 0))
	wantTokens(t, "-9223372036854775807", markAt("-", 0), numberAt(9223372036854775807, 1))
	wantFault(t, "9223372036854775808", 3, 0)
	wantFault(t, "-9223372036854775808", 3, 1)
	for _, src := range []string{"9223372036854775810", "10000000000000000000", "18446744073709551615", "18446744073709551616", "18446744073709551617", strings.Repeat("9", 7000)} {
		wantFault(t, " "+src, 3, 1)
	}
	wantTokens(t, "0", numberAt(0, 0))
	wantTokens(t, "0 0", numberAt(0, 0), numberAt(0, 2))
	for _, src := range []string{"00", "01", "007", "00000000000000000000", "09223372036854775807", "0x1", "0b1", "0_1"} {
		wantFault(t, "a "+src, 3, 2)
	}
	for _, next := range []string{"a", "e", "e5", "z", "_", "_0", "if"} {
		wantFault(t, "\n12"+next, 3, 1)
	}
	wantFault(t, "1A", 2, 1)
	wantFault(t, "1\t", 2, 1)
}

func TestScanSizeEdges(t *testing.T) {
	wantTokens(t, strings.Repeat(" ", impl.MaxSrc))
	wantTokens(t, strings.Repeat(" ", impl.MaxSrc-1)+"x", nameAt("x", impl.MaxSrc-1))
	wantFault(t, strings.Repeat(" ", impl.MaxSrc+1), 1, 0)
	wantFault(t, "@"+strings.Repeat(" ", impl.MaxSrc), 1, 0)
	wantFault(t, strings.Repeat(" ", impl.MaxSrc-1)+"@", 2, impl.MaxSrc-1)
	for _, first := range []string{"a", "_", "if"} {
		full := first + strings.Repeat("9", impl.MaxName-len(first))
		wantTokens(t, " "+full+" b", nameAt(full, 1), nameAt("b", impl.MaxName+2))
		wantFault(t, " "+full+"9 b", 5, 1)
	}
	wantFault(t, strings.Repeat("x", impl.MaxSrc), 5, 0)
	full := strings.Repeat("x", impl.MaxText)
	wantTokens(t, ` "`+full+`"b`, textAt(full, 1), nameAt("b", impl.MaxText+3))
	wantFault(t, ` "`+full+`y"`, 5, 1)
	// The limit counts what a text stands for, not how it is written.
	full = strings.Repeat("\x00", impl.MaxText)
	wantTokens(t, `"`+strings.Repeat(`\00`, impl.MaxText)+`"`, textAt(full, 0))
	wantFault(t, `"`+strings.Repeat(`\00`, impl.MaxText+1)+`"`, 5, 0)
}

func TestScanTextBytes(t *testing.T) {
	wantTokens(t, `""`, textAt("", 0))
	wantTokens(t, `"\22\5c"`, textAt(`"\`, 0))
	wantTokens(t, `"\41A\61"`, textAt("AAa", 0))
	const digits = "0123456789abcdef"
	for i := range 256 {
		b := string([]byte{byte(i)})
		escape := `\` + string(digits[i/16]) + string(digits[i%16])
		wantTokens(t, `"`+escape+`"`, textAt(b, 0))
		wantTokens(t, `"x`+escape+`1"`, textAt("x"+b+"1", 0))
		switch {
		case b == `"`:
			wantTokens(t, `" " " "`, textAt(" ", 0), textAt(" ", 4))
		case i < 32 || i > 126 || b == `\`:
			wantFault(t, ` "`+b+`"`, 4, 1)
		default:
			wantTokens(t, `"`+b+`"`, textAt(b, 0))
		}
	}
}

func TestScanWrongTexts(t *testing.T) {
	for _, src := range []string{`"`, `"a`, `"\`, `"\"`, `"\4`, `"\4"`, `"\41`, `"\4g"`, `"\4A"`, `"\A4"`, `"\n"`, `"\x41"`, `"\""`, `"\\"`, `"\ 41"`, "\"a\nb\"", "\"\t\"", "\"\x7f\"", "\"\x80\"", "\"é\"", "\"a # b\n"} {
		wantFault(t, src, 4, 0)
		wantFault(t, "x = "+src, 4, 4)
	}
	// Code 4 is looked for ahead of code 5.
	long := strings.Repeat("x", impl.MaxText+1)
	for _, end := range []string{"", "\n\"", `\`, `\4"`, "\x80\""} {
		wantFault(t, ` "`+long+end, 4, 1)
	}
}

func TestScanNoToken(t *testing.T) {
	allowed := `"#` + " \n" + strings.Join(marks(), "")
	for i := range 256 {
		b := byte(i)
		if b >= 'a' && b <= 'z' || b >= '0' && b <= '9' || b == '_' || b != '!' && strings.IndexByte(allowed, b) >= 0 {
			continue
		}
		wantFault(t, string([]byte{b}), 2, 0)
		wantFault(t, "a "+string([]byte{b})+" 01", 2, 2)
		wantFault(t, "ab"+string([]byte{b}), 2, 2)
	}
	wantFault(t, "! =", 2, 0)
	wantFault(t, "=!", 2, 1)
}

func TestScanFirstFaultCounts(t *testing.T) {
	wantFault(t, "a 01 @ \"", 3, 2)
	wantFault(t, "a @ 01 \"", 2, 2)
	wantFault(t, "\" 01 @", 4, 0)
	wantFault(t, strings.Repeat("n", impl.MaxName+1)+" @", 5, 0)
	wantFault(t, "\"a\" \"b\" 1z", 3, 8)
}

func TestScanAnswerIsNew(t *testing.T) {
	const src = `let a = "b";`
	first, _ := impl.Scan(src)
	for i := range first[:cap(first)] {
		first[:cap(first)][i] = impl.Token{Kind: 99, Text: "changed"}
	}
	wantTokens(t, src, wordAt("let", 0), nameAt("a", 4), markAt("=", 6), textAt("b", 8), markAt(";", 11))
}

// pieceEnd is where a token's own piece of the text ends.
func pieceEnd(src string, token impl.Token) int {
	switch token.Kind {
	case impl.TokInt:
		return token.At + len(strconv.FormatInt(token.N, 10))
	case impl.TokText:
		return token.At + 1 + strings.IndexByte(src[token.At+1:], '"') + 1
	}
	return token.At + len(token.Text)
}

// checkPieces asks promise 1 of one text.
func checkPieces(t *testing.T, src string) {
	t.Helper()
	tokens, _ := impl.Scan(src)
	end := 0
	for _, token := range tokens {
		if token.At < end {
			t.Fatalf("Scan(%q): %+v begins ahead of %d", src, token, end)
		}
		end = pieceEnd(src, token)
		if end > len(src) {
			t.Fatalf("Scan(%q): %+v ends behind the text", src, token)
		}
		alone := token
		alone.At = 0
		wantTokens(t, src[token.At:end], alone)
	}
}
