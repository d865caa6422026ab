package tests

import (
	"fmt"
	"slices"
	"strings"
	"testing"

	"loop.example/kilnclay/impl"
)

// wantSession takes in turn a command (with its lines) and its answer, and asks for these answers, to the first commands alone as well.
func wantSession(t *testing.T, turns ...string) {
	t.Helper()
	text, want := "", ""
	for i := 0; i < len(turns); i += 2 {
		text, want = text+turns[i]+"\n", want+turns[i+1]+"\n"
		wantAnswers(t, text, want)
		if turns[i] != "" {
			wantAnswers(t, strings.TrimSuffix(text, "\n"), want)
		}
	}
}

func wantAnswers(t *testing.T, text, want string) {
	t.Helper()
	if got := impl.Session(text); got != want {
		t.Fatalf("%.600s\ngot  %.600q\nwant %.600q", text, got, want)
	}
	checkSession(t, text)
}

// pack is a command that sets a package to lines.
func pack(name string, lines ...string) string {
	return strings.Join(slices.Concat([]string{"file " + name}, lines, []string{"."}), "\n")
}

func TestSessionConstants(t *testing.T) {
	if impl.MaxSession != 20000 || impl.MaxLines != 400 {
		t.Error(impl.MaxSession, impl.MaxLines)
	}
}

func TestSessionOfTheDocument(t *testing.T) {
	wantSession(t,
		pack("lib", `def lib(name, deps = []) = {name: name, tool: "cc", ins: [name + ".c"] + deps, outs: [name + ".o"]};`), "ok",
		pack("main",
			`load "lib": lib;`,
			`let all = [cut(f, 0, len(f) - 2) for f in files("") if f has ".c"];`,
			`emit lib("x", deps = ["x.h"]);`,
			`let rest = [lib(n) for n in all if n != "x"];`,
			`emit rest[0];`), "ok",
		"name x.c", "ok",
		"name y.c", "ok",
		"run main", "code 0 told 2 steps 74",
		"plan main", `plan 0 "x":2>1 "y":1>1`,
		"value main all", `["x", "y"]`,
		"read main", `lib main; ""`)
}

func TestSessionOfNothing(t *testing.T) {
	wantAnswers(t, "", "")
	wantAnswers(t, "\n", "bad\n")
	wantAnswers(t, "\n\n", "bad\nbad\n")
	wantAnswers(t, "look a", "none\n")
	wantAnswers(t, "look a\n", "none\n")
	wantAnswers(t, "look a\n\n", "none\nbad\n")
	wantAnswers(t, "look a\nlook a", "none\nnone\n")
	wantAnswers(t, " ", "bad\n")
}

func TestFileAndDrop(t *testing.T) {
	wantSession(t,
		"look a", "none", "drop a", "none",
		pack("a"), "ok", "look a", "fits", "run a", "code 0 told 0 steps 0",
		pack("a", "let x = 1;"), "ok", "value a x", "1",
		pack("a", "let x =", "2", ";"), "ok", "value a x", "2",
		pack("b", "let x = 3;"), "ok", "value b x", "3", "value a x", "2",
		"drop a", "ok", "value a x", "none", "value b x", "3", "drop a", "none", "look a", "none",
		pack("a", "let y = 4;"), "ok", "value a y", "4", "value a x", "none",
		"drop b", "ok", "drop a", "ok", "drop b", "none", "drop gone", "none")
	// The lines of a package are no commands, but for the first one that is just `.`.
	wantSession(t,
		pack("a", "drop a", "file b", "look a", "", " .", ". ", "..", ".x"), "ok", "look a", "fault 6 0",
		"file a\n.\n.", "ok\nbad", "look b", "none",
		pack("a", "# file b"), "ok", "look a", "fits", "look b", "none")
	// Each line has its newline: the size of a text that ends too early tells it.
	wantSession(t,
		pack("a", "let x"), "ok", "look a", "fault 6 6",
		pack("a", "", "let x", ""), "ok", "look a", "fault 6 8",
		pack("a", "let x", "", "", ""), "ok", "look a", "fault 6 9",
		pack("a", ""), "ok", "look a", "fits",
		pack("a", `let x = "`, `";`), "ok", "look a", "fault 4 8",
		pack("a", "# \x00\r\xff", "let x = 1; # \"", "let y = x;"), "ok", "look a", "fits", "value a y", "1")
}

func TestFileThatIsNotEnded(t *testing.T) {
	wantAnswers(t, "file a", "bad\n")
	wantAnswers(t, "file a\n", "bad\n")
	wantAnswers(t, "file a\nlet x = 1;\nlook a\nrun a\n", "bad\n")
	wantAnswers(t, "look a\nfile a\n\n\n", "none\nbad\n")
	wantAnswers(t, pack("a")+"\nfile a\n..\n. \n .\n.\r", "ok\nbad\n")
	wantAnswers(t, "file a\n.", "ok\n")
	wantAnswers(t, "file a\nfile b\n.\nlook b\nlook a", "ok\nnone\nfault 6 0\n")
}

func TestFileThatIsTooLong(t *testing.T) {
	line := func(size int) string { return "#" + strings.Repeat("x", size-1) }
	wantSession(t,
		pack("a", line(impl.MaxSrc-1)), "ok", "look a", "fits",
		pack("b", line(impl.MaxSrc)), "no", "look b", "none",
		"drop a", "ok")
	wantSession(t,
		pack("a", line(3000), line(2000), "", line(2996)), "ok", "run a", "code 0 told 0 steps 0",
		pack("b", line(3000), line(2000), "", line(2997)), "no", "run b", "code 2 told 0 steps 0 at b")
	// What is there stays.
	wantSession(t,
		pack("a", "let x = 1;"), "ok",
		pack("a", "let x = 2;", line(impl.MaxSrc-11)), "no", "value a x", "1",
		pack("a", "let x = 2;", line(impl.MaxSrc-12)), "ok", "value a x", "2")
	// Its lines are taken, nevertheless.
	wantSession(t, pack("a", line(impl.MaxSrc), "file b", "look a"), "no", "look b", "none")
	wantSession(t, pack("a", strings.Repeat("\n", impl.MaxSrc-1)), "ok", pack("a", strings.Repeat("\n", impl.MaxSrc)), "no")
}

func TestFilesThatAreTooMany(t *testing.T) {
	var turns []string
	for i := range impl.MaxFiles {
		turns = append(turns, pack(fmt.Sprint("p", 7*i%impl.MaxFiles), fmt.Sprint("let x = ", i, ";")), "ok")
	}
	turns = append(turns,
		pack("q", "let x = 20;", "drop p0"), "no", "look q", "none", "value p0 x", "0", "value p13 x", "19",
		pack("p0", "let x = 21;"), "ok", "value p0 x", "21",
		pack("a"), "no", pack("z"), "no", "file p7\nlook p7\n.", "ok", "look p7", "fault 6 0",
		"drop p13", "ok", pack("q", "let x = 22;"), "ok", "value q x", "22", "value p13 x", "none",
		pack("p13"), "no", "drop p13", "none", "drop q", "ok", pack("p13"), "ok", pack("q"), "no",
		"run p0", "code 0 told 0 steps 1")
	wantSession(t, turns...)
}

func TestNameAndUnname(t *testing.T) {
	all := pack("m", `let all = files("");`, `let a = files("a");`)
	wantSession(t, all, "ok", "value m all", "[]",
		"name b", "ok", "value m all", `["b"]`,
		"name a", "ok", "name ab", "ok", "name A", "ok", "value m all", `["A", "a", "ab", "b"]`, "value m a", `["a", "ab"]`,
		"name a", "ok", "name a", "ok", "value m all", `["A", "a", "ab", "b"]`,
		"unname a", "ok", "value m all", `["A", "ab", "b"]`, "unname a", "no", "unname B", "no", "unname abc", "no",
		"unname A", "ok", "unname b", "ok", "unname ab", "ok", "value m all", "[]", "unname ab", "no")
	// TEXT is all that is behind the first space.
	wantSession(t, all, "ok",
		"name p q", "ok", "name p", "ok", "name  p", "ok", "name  ", "ok", "name p ", "ok", "name   p  q ", "ok",
		"value m all", `[" ", "  p  q ", " p", "p", "p ", "p q"]`,
		"unname p q ", "no", "unname p", "ok", "unname p", "no", "unname  ", "ok", "unname   ", "no", "unname p q", "ok",
		"value m all", `["  p  q ", " p", "p "]`)
	wantSession(t, all, "ok",
		"name \"\\\t\r\xff\x00é", "ok", "name UP/down-1.c", "ok", "name .", "ok", "name file a", "ok",
		"value m all", `["\22\5c\09\0d\ff\00\c3\a9", ".", "UP/down-1.c", "file a"]`,
		"unname \"\\\t\r\xff\x00é", "ok", "value m all", `[".", "UP/down-1.c", "file a"]`)
	wantSession(t, "name", "bad", "name ", "bad", "unname", "bad", "unname ", "bad", "unname a", "no", all, "ok", "value m all", "[]")
}

func TestNamesThatAreTooLongOrMany(t *testing.T) {
	sizes := pack("m", `let all = [len(x) for x in files("")];`)
	long := strings.Repeat("x", impl.MaxText)
	wantSession(t, sizes, "ok",
		"name "+long, "ok", "name "+long+"x", "no", "value m all", "[1000]", "name "+long, "ok",
		"unname "+long+"x", "no", "unname "+long, "ok", "unname "+long, "no", "value m all", "[]",
		"name "+strings.Repeat(" ", impl.MaxText), "ok", "name "+strings.Repeat(" ", impl.MaxText+1), "no", "value m all", "[1000]")
	turns := []string{pack("m", `let all = len(files(""));`, `let a = files("x0");`), "ok"}
	for i := range impl.MaxLooks {
		turns = append(turns, fmt.Sprintf("name x%02d", 7*i%impl.MaxLooks), "ok")
	}
	turns = append(turns, "value m all", "60", "name y", "no", "name a", "no", "name x0", "no", "value m all", "60",
		"name x00", "ok", "name x59", "ok", "name x30", "ok", "value m all", "60", "unname y", "no",
		"unname x30", "ok", "value m all", "59", "name x0", "ok", "value m all", "60", "name x30", "no",
		"value m a", `["x0", "x00", "x01", "x02", "x03", "x04", "x05", "x06", "x07", "x08", "x09"]`)
	wantSession(t, turns...)
}

func TestLookInASession(t *testing.T) {
	turns := []string{"look a", "none"}
	for _, turn := range [][2]string{
		{"", "fits"}, {"let x = 1;", "fits"}, {`load "gone": x, _y;`, "fits"}, {"let x = x;", "fits"}, {"let x = 1 / 0;", "fits"}, {`load "a": x;`, "fits"},
		{"let x = @;", "fault 2 8"}, {"\x00", "fault 2 0"}, {"let x = 1;\tlet y = 2;", "fault 2 10"},
		{"let x = 01;", "fault 3 8"}, {"emit 9223372036854775808;", "fault 3 5"},
		{"let x = \"a", "fault 4 8"}, {`let x = "\g0";`, "fault 4 8"},
		{"let " + strings.Repeat("x", 31) + " = 1;", "fault 5 4"}, {`emit "` + strings.Repeat("x", 1001) + `";`, "fault 5 5"},
		{"let x = ;", "fault 6 8"}, {"let x = 1", "fault 6 10"}, {"x;", "fault 6 0"}, {"let if = 1;", "fault 6 4"},
		{"emit {a: 1, a: 2};", "fault 7 0"}, {`load "UP": x;`, "fault 7 0"},
		{"let a = 1; let a = 2;", "unfit 8 3"}, {"def f(a, a) = a;", "unfit 8 1"},
		{"let x = y;", "unfit 9 0"}, {"emit {a: 1, b: c};", "unfit 9 2"},
		{"def f(a = 1, b) = a;", "unfit 10 2"},
	} {
		turns = append(turns, pack("a", turn[0]), "ok", "look a", turn[1])
	}
	wantSession(t, turns...)
}

// manyOnes is an E whose printed form is much longer than it.
func manyOnes(rows int) string {
	row := "[" + strings.Repeat("1,", 149) + "1]"
	return "[" + strings.Repeat(row+",", rows-1) + row + "]"
}

func TestPrintInASession(t *testing.T) {
	wantSession(t, "print a", "no",
		pack("a", "let x=1+(2*3);# note", "emit{v:x};"), "ok", "run a", "code 0 told 1 steps 7",
		"print a", "ok", "look a", "fits", "run a", "code 0 told 1 steps 7", "print a", "ok", "value a x", "7", "plan a", "plan 2 0",
		"print b", "no", "drop a", "ok", "print a", "no")
	wantSession(t,
		pack("a"), "ok", "print a", "no", pack("a", "# note"), "ok", "print a", "no", "look a", "fits",
		pack("a", "let x = ;"), "ok", "print a", "no", "look a", "fault 6 8",
		pack("a", "let x = y;"), "ok", "print a", "no", "look a", "unfit 9 0",
		pack("a", "let a=1;let a=2;"), "ok", "print a", "no", "look a", "unfit 8 3",
		pack("a", "let x = 1 / 0;"), "ok", "print a", "ok", "run a", `code 4 told 0 steps 3 "divide" at a`)
	// It would have too many bytes.
	wantSession(t,
		pack("a", "def f()="+manyOnes(20)+";let x=2*3;"), "ok", "look a", "fits", "print a", "no", "look a", "fits", "value a x", "6",
		pack("a", "def f()="+manyOnes(17)+";let x=2*3;"), "ok", "look a", "fits", "print a", "ok", "look a", "fits", "value a x", "6")
}

func TestFoldInASession(t *testing.T) {
	wantSession(t, "fold a", "no",
		pack("a", "let x = 1 + 2 * 3;", "emit {v: if x > 2 then let y = 2 in y * y else x};"), "ok",
		"run a", "code 0 told 1 steps 15", "fold a", "ok", "run a", "code 0 told 1 steps 7",
		"value a x", "7", "fold a", "ok", "run a", "code 0 told 1 steps 7", "print a", "ok", "run a", "code 0 told 1 steps 7",
		"fold b", "no", "drop a", "ok", "fold a", "no")
	wantSession(t,
		pack("a"), "ok", "fold a", "no", pack("a", "# note"), "ok", "fold a", "no",
		pack("a", "let x = ;"), "ok", "fold a", "no", "look a", "fault 6 8",
		pack("a", "let x = y + 1 + 1;"), "ok", "fold a", "no", "look a", "unfit 9 0",
		pack("a", "let x = 1 / 0 + (1 + 1);"), "ok", "run a", `code 4 told 0 steps 4 "divide" at a`, "fold a", "ok", "run a", `code 4 told 0 steps 4 "divide" at a`)
	// A folded tree that is too long for Print: the text stays as it was.
	text := func(uses int) string {
		return `let x = let s = "` + strings.Repeat("x", 900) + `" in [` + strings.Repeat("s, ", uses-1) + "s];"
	}
	wantSession(t,
		pack("a", text(10)), "ok", "run a", "code 0 told 0 steps 13", "fold a", "no", "run a", "code 0 told 0 steps 13", "print a", "ok",
		pack("a", text(8)), "ok", "run a", "code 0 told 0 steps 11", "fold a", "ok", "run a", "code 0 told 0 steps 9")
	wantSession(t, pack("a", "def f()="+manyOnes(20)+";let x=2*3;"), "ok", "fold a", "no", "run a", "code 0 told 0 steps 3")
	// One package is folded, and no other.
	wantSession(t,
		pack("a", "let x = 1 + 1;"), "ok", pack("b", `load "a": x;`, "let y = 2 + 2;"), "ok", pack("c", "let z = 3 + 3;"), "ok",
		"run b", "code 0 told 0 steps 6", "fold b", "ok", "run b", "code 0 told 0 steps 4", "run c", "code 0 told 0 steps 3", "run a", "code 0 told 0 steps 3",
		"fold a", "ok", "run b", "code 0 told 0 steps 2", "run c", "code 0 told 0 steps 3")
}

func TestRunInASession(t *testing.T) {
	wantSession(t, "run a", "code 2 told 0 steps 0 at a",
		pack("a", "emit {a: 1};"), "ok", "run a", "code 0 told 1 steps 2",
		pack("a", "emit {};", "emit {a: [1, 2]};", "emit {};"), "ok", "run a", "code 0 told 3 steps 6",
		pack("b", "let z = 1;", `load "a": x;`), "ok", "run b", `code 4 told 0 steps 7 "name" at b`,
		pack("b", "emit {};", `load "gone/a-1.x": x;`), "ok", "run b", "code 2 told 0 steps 1 at gone/a-1.x",
		pack("a", "let x = ;"), "ok", "run a", "code 3 told 0 steps 0 at a",
		pack("b", "let z = [1];", `load "a": x;`), "ok", "run b", "code 3 told 0 steps 2 at a",
		pack("a", "let x = y;"), "ok", "run a", "code 3 told 0 steps 0 at a", "run b", "code 3 told 0 steps 2 at a",
		"drop a", "ok", "run b", "code 2 told 0 steps 2 at a", "run a", "code 2 told 0 steps 0 at a")
	wantSession(t,
		pack("a", "emit {};", "let x = 1 / 0;"), "ok", "run a", `code 4 told 0 steps 4 "divide" at a`,
		pack("a", "def f(n) = g(n);", "def g(n) = n.x;", "let y = f(1);"), "ok", "run a", `code 4 told 0 steps 8 "type" at a < a.f < a.g`,
		pack("a", "let f = fn(x) => fail(x);", `emit {v: f("q\22\0a\ff \5c'")};`), "ok", "run a", `code 4 told 0 steps 8 "q\22\0a\ff \5c'" at a < a.fn`,
		pack("a", `let x = fail("");`), "ok", "run a", `code 4 told 0 steps 3 "" at a`,
		pack("a", `load "a": x;`), "ok", "run a", `code 4 told 0 steps 0 "cycle" at a`,
		pack("lib/x.y", "def f(g) = g();"), "ok",
		pack("a", `load "lib/x.y": f;`, `let y = f(fn() => fail("no"));`), "ok",
		"run a", `code 4 told 0 steps 8 "no" at a < lib/x.y.f < a.fn`)
	wantSession(t,
		pack("a", "def f(n) = f(n + 1);", "let x = f(0);"), "ok",
		"run a", `code 4 told 0 steps 153 "deep" at a`+strings.Repeat(" < a.f", impl.MaxCalls))
}

func TestValueInASession(t *testing.T) {
	wantSession(t, "value a x", "none",
		pack("lib", "let q = 1;"), "ok",
		pack("a", `load "lib": q;`, `let t = "a\0a\22";`, "let l = [1, -2, none, true];", `let r = {b: 1, "a b": {}};`, "def f(p) = let s = p in s;", "let g = len;",
			"let n = -9223372036854775807 - 1;", "let _p = [];", "let z = none;", "let "+strings.Repeat("y", 30)+" = q;"), "ok",
		"value a t", `"a\0a\22"`, "value a l", "[1, -2, none, true]", "value a r", `{"a b": {}, b: 1}`, "value a n", "-9223372036854775807 - 1",
		"value a _p", "[]", "value a z", "none", "value a "+strings.Repeat("y", 30), "1",
		"value a f", "none", "value a g", "none", "value a q", "none", "value lib q", "1", "value a p", "none", "value a s", "none",
		"value a x", "none", "value a len", "none", "value gone q", "none",
		// NAME may be any word.
		"value a T", "none", "value a 1", "none", "value a let", "none", "value a \"t\"", "none", "value a \xff\x00", "none", "value a t\r", "none", "value a "+strings.Repeat("y", 31), "none",
		"value a", "bad", "value a ", "bad", "value a  t", "bad", "value  a t", "bad", "value a t ", "bad", "value a t l", "bad", "value A t", "bad", "value t", "bad", "value  t", "bad")
	wantSession(t,
		pack("a", "let x = 1;", "let y = 1 / 0;"), "ok", "value a x", "none",
		pack("a", "let x = 1;", "let y = ;"), "ok", "value a x", "none",
		pack("a", "let x = 1;", "let y = z;"), "ok", "value a x", "none",
		pack("a", "let x = 1;", `load "gone": y;`), "ok", "value a x", "none",
		pack("a", "let x = 1;"), "ok", "value a x", "1")
}

func TestPlanInASession(t *testing.T) {
	emit := func(name, more string) string { return `emit {name: "` + name + `", tool: "t", ` + more + "};" }
	wantSession(t, "plan a", "code 2",
		pack("a"), "ok", "plan a", "plan 0",
		pack("a", emit("n", `outs: ["o"]`)), "ok", "plan a", `plan 0 "n":0>1`,
		pack("a", emit("n", `outs: ["o", "p"], ins: [], arg: "x"`), emit("m", `outs: ["q"], ins: ["o", "p", "q"]`)), "ok", "plan a", `plan 0 "m":3>1 "n":0>2`,
		pack("a", emit(`x \22:\0a\ff`, `outs: [text(n) for n in range(200)], ins: [text(n) for n in range(12)]`)), "ok", "plan a", `plan 0 "x \22:\0a\ff":12>200`,
		pack("a", emit("n", `outs: ["o"]`), `emit {name: "m"};`), "ok", "plan a", "plan 2 1",
		pack("a", "emit {};", emit("n", `outs: ["o"]`)), "ok", "plan a", "plan 2 0",
		pack("a", emit("n", `outs: ["o"]`), emit("m", `outs: ["p"]`), emit("n", `outs: ["o"]`)), "ok", "plan a", "plan 3 2",
		pack("a", emit("n", `outs: ["o"]`), emit("m", `outs: ["p", "o"]`), "emit {};"), "ok", "plan a", "plan 4 1",
		pack("a", emit("n", `outs: ["o"], ins: ["i", "i"]`), "emit {};"), "ok", "plan a", "plan 5 0",
		pack("a", "let x = ;"), "ok", "plan a", "code 3",
		pack("a", emit("n", `outs: ["o"]`), "let x = 1 / 0;"), "ok", "plan a", "code 4",
		pack("b", `load "gone": x;`), "ok", "plan b", "code 2",
		pack("b", `load "a": x;`), "ok", "plan b", "code 4")
	// What is told by a package that is loaded is a target, too.
	wantSession(t,
		pack("lib", emit("z", `outs: ["o"]`), "let x = 1;"), "ok", pack("a", emit("y", `outs: ["p"]`), `load "lib": x;`), "ok", "plan a", `plan 0 "y":0>1 "z":0>1`,
		pack("a", emit("y", `outs: ["o"]`), `load "lib": x;`), "ok", "plan a", "plan 4 1")
}

func TestReadInASession(t *testing.T) {
	wantSession(t, "read a", "a;",
		pack("a"), "ok", "read a", "a;",
		pack("a", `let x = files("");`), "ok", "read a", `a; ""`,
		pack("a", `let x = [files("b"), files("a\22\0a"), files("b"), files(" ")];`), "ok", "read a", `a; " " "a\22\0a" "b"`,
		pack("b", `let z = files("z");`, `load "a": x;`, `load "c/-.": y;`, `let q = files("q");`), "ok", "read b", `a b c/-.; " " "a\22\0a" "b" "z"`,
		pack("c/-.", "let y = 1;"), "ok", "read b", `a b c/-.; " " "a\22\0a" "b" "q" "z"`,
		pack("a", "let x = ;"), "ok", "read a", "a;", "read b", `a b; "z"`,
		pack("a", "let x = y;"), "ok", "read b", `a b; "z"`,
		pack("a", `let x = files("x");`, `let y = fail("no");`, `let w = files("w");`), "ok", "read a", `a; "x"`, "read b", `a b; "x" "z"`,
		"drop a", "ok", "read b", `a b; "z"`, "read a", "a;")
}

func TestLinesThatAreNoCommands(t *testing.T) {
	turns := []string{pack("a", "let x = 1;"), "ok"}
	for _, word := range strings.Fields("file drop look print fold run plan read") {
		for _, rest := range []string{"", " ", "  a", " a ", " a b", " A", " a\t", " a\r", "\ta", "a", " \"a\"", " a,b", " é", " \x00", " a\x00", " ;", " " + strings.Repeat("x", 31)} {
			turns = append(turns, word+rest, "bad")
		}
		turns = append(turns, " "+word+" a", "bad", strings.ToUpper(word)+" a", "bad", word+"s a", "bad", word[1:]+" a", "bad", word+": a", "bad")
	}
	for _, line := range []string{"", " ", "  ", ".", " .", "..", "a", "zap a", "let x = 1;", "# note", "value", "value ", "value a", "values a x", "Value a x", " value a x", "value\ta x", "name", "unname", "name ", "Name x", " name x", "names x", "nam x", "un name x", "\x00", "\xff", "none", "ok", "bad", "too long"} {
		turns = append(turns, line, "bad")
	}
	// Nothing of this was done.
	turns = append(turns, "value a x", "1", "run a", "code 0 told 0 steps 1", "read a", "a;")
	for size := len(turns); size > 0; size -= 600 {
		piece := turns[max(0, size-600):size]
		if size > 600 {
			piece = append([]string{turns[0], turns[1]}, piece...)
		}
		text, want := "", ""
		for i := 0; i < len(piece); i += 2 {
			text, want = text+piece[i]+"\n", want+piece[i+1]+"\n"
		}
		wantAnswers(t, text, want)
	}
	// Names of packages, as long as they may be.
	for _, name := range []string{strings.Repeat("x", 30), "-", ".", "/", "_", "0", "a.b/c-d_1", "file", "if"} {
		wantSession(t, "look "+name, "none", pack(name, "let v = 1;"), "ok", "look "+name, "fits", "print "+name, "ok", "fold "+name, "ok",
			"run "+name, "code 0 told 0 steps 1", "value "+name+" v", "1", "plan "+name, "plan 0", "read "+name, name+";", "drop "+name, "ok")
	}
	// The lines behind a `file` that is none are commands.
	wantSession(t, "file A", "bad", "look a", "none", ".", "bad", "file", "bad", "name x", "ok", "file a b", "bad", ".", "bad")
}

func TestSessionsThatAreTooLong(t *testing.T) {
	const tooLong = "too long\n"
	wantAnswers(t, strings.Repeat("x", impl.MaxSession), "bad\n")
	wantAnswers(t, strings.Repeat("x", impl.MaxSession-1)+"\n", "bad\n")
	wantAnswers(t, strings.Repeat("x", impl.MaxSession)+"\n", tooLong)
	wantAnswers(t, strings.Repeat("x", impl.MaxSession+1), tooLong)
	wantAnswers(t, strings.Repeat("\n", impl.MaxSession+1), tooLong)
	wantAnswers(t, strings.Repeat("x", 10*impl.MaxSession), tooLong)
	wantAnswers(t, "file a\n"+strings.Repeat("\n", impl.MaxSession-7), "bad\n")
	wantAnswers(t, "file a\n"+strings.Repeat("\n", impl.MaxSession-6), tooLong)
	wantAnswers(t, "file a\n"+strings.Repeat("\n", impl.MaxSession-8)+".", "no\n")
	wantAnswers(t, "file a\n"+strings.Repeat("\n", impl.MaxSession-8)+".\n", tooLong)
	note := "#" + strings.Repeat("x", impl.MaxSrc-2)
	whole := pack("a", note) + "\n" + pack("b", note) + "\nrun a\n"
	whole += "name " + strings.Repeat("x", impl.MaxSession-len(whole)-len("name \nrun b\n")) + "\nrun b\n"
	wantAnswers(t, whole, "ok\nok\ncode 0 told 0 steps 0\nno\ncode 0 told 0 steps 0\n")
	wantAnswers(t, whole+"x", tooLong)
}

func TestCommandsThatAreTooMany(t *testing.T) {
	const tooLong = "too long\n"
	most := strings.Repeat("x\n", impl.MaxLines)
	bad := strings.Repeat("bad\n", impl.MaxLines)
	wantAnswers(t, most, bad)
	wantAnswers(t, strings.TrimSuffix(most, "\n"), bad)
	wantAnswers(t, most+"\n", tooLong)
	wantAnswers(t, most+"x", tooLong)
	wantAnswers(t, most+"look a", tooLong)
	wantAnswers(t, most+"file a", tooLong)
	wantAnswers(t, most+"file a\n.", tooLong)
	wantAnswers(t, strings.Repeat("\n", impl.MaxLines), bad)
	wantAnswers(t, strings.Repeat("\n", impl.MaxLines+1), tooLong)
	wantAnswers(t, strings.Repeat("look a\n", impl.MaxLines), strings.Repeat("none\n", impl.MaxLines))
	wantAnswers(t, strings.Repeat("look a\n", impl.MaxLines+1), tooLong)
	// The lines of a package and its `.` are no commands.
	wantAnswers(t, strings.Repeat("file a\n#\n#\n.\n", impl.MaxLines), strings.Repeat("ok\n", impl.MaxLines))
	wantAnswers(t, strings.Repeat("file a\n#\n#\n.\n", impl.MaxLines+1), tooLong)
	wantAnswers(t, pack("a", strings.Repeat("#\n", 3000))+"\n"+most[2:], "ok\n"+bad[4:])
	wantAnswers(t, pack("a", strings.Repeat("#\n", 3000))+"\n"+most, tooLong)
	wantAnswers(t, pack("a", strings.Repeat("#\n", 5000))+"\n"+most[2:], "no\n"+bad[4:])
	wantAnswers(t, most[2:]+"file a\n"+strings.Repeat("x\n", 1000), bad)
	wantAnswers(t, most[2:]+"file a\n"+strings.Repeat("x\n", 1000)+".\n", bad[4:]+"ok\n")
	wantAnswers(t, most+"file a\n"+strings.Repeat("x\n", 1000), tooLong)
}

func TestSessionsKeepNothing(t *testing.T) {
	for range 2 {
		wantSession(t, "look a", "none", "drop a", "none", "unname x", "no", pack("a", `let x = files("");`), "ok", "value a x", "[]", "name x", "ok", "value a x", `["x"]`)
	}
}
