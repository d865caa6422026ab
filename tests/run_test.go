package tests

import (
	"fmt"
	"slices"
	"strings"
	"testing"

	"loop.example/kilnclay/impl"
)

// threeNames are the Names of the world in which wantRuns runs.
func threeNames() []string {
	return []string{"a.c", "ab", "b.c"}
}

// wantRuns reads lines `TEXT => ~STORY` (a text may hold a `=>` of its own) and runs each text as the one package m. It holds the second reading against them, too.
func wantRuns(t *testing.T, lines string) {
	t.Helper()
	for line := range strings.Lines(strings.TrimSpace(lines)) {
		src, want, _ := strings.Cut(strings.TrimSpace(line), " => ~")
		wantRun(t, src, strings.TrimSpace(want))
	}
}

func wantRun(t *testing.T, src, want string) {
	t.Helper()
	w := worldOf(threeNames(), map[string]string{"m": src})
	out := impl.Run(w, "m")
	if got := story(out); got != want || !slices.Equal(out.Read, []string{"m"}) {
		t.Errorf("%.300s\ngot  %.300s read %q\nwant %.300s", src, got, out.Read, want)
	}
	if got, want := whole(out), whole(secondRun(w, "m")); got != want {
		t.Errorf("%.300s\ngot  %.300s\nread a second time: %.300s", src, got, want)
	}
	checkFoldedRuns(t, w, "m")
}

// wantPacks runs m beside other packages, given as a name and a text in turn, and asks for all of the Outcome.
func wantPacks(t *testing.T, want string, files ...string) {
	t.Helper()
	texts := map[string]string{}
	for i := 0; i < len(files); i += 2 {
		texts[files[i]] = files[i+1]
	}
	w := worldOf(threeNames(), texts)
	if got := whole(impl.Run(w, "m")); got != want {
		t.Errorf("%s\ngot  %s\nwant %s", worldText(w), got, want)
	}
	if got := whole(secondRun(w, "m")); got != want {
		t.Errorf("%s\nread a second time: %s\nwant %s", worldText(w), got, want)
	}
	checkFoldedRuns(t, w, "m")
}

func TestRunConstants(t *testing.T) {
	got := []int{impl.MaxFiles, impl.MaxLooks, impl.MaxSteps, impl.MaxCalls, impl.MaxTold}
	if want := []int{20, 60, 5000, 30, 60}; !slices.Equal(got, want) {
		t.Errorf("got %v, want %v", got, want)
	}
}

func TestEachStatementRun(t *testing.T) {
	wantRun(t, "", "in 0")
	wantRuns(t, `
		# nothing => ~in 0
		let a = 1; => ~in 1
		def f(x) = x / 0; => ~in 0
		def f(x = 1 / 0) = x; => ~in 0
		emit {}; => ~m{} in 1
		emit {a: 1}; emit {b: 2}; emit {a: 1}; => ~m{a: 1} m{b: 2} m{a: 1} in 6
		let a = {b: 1}; emit a; let c = a.b; emit a + {c: c}; => ~m{b: 1} m{b: 1, c: 1} in 9
		def f(x) = {v: x}; emit f(1); => ~m{v: 1} in 5
		emit {a: 1}; emit 1; => ~!type at m in 3
		emit none; => ~!type at m in 1
		emit true; => ~!type at m in 1
		emit 1; => ~!type at m in 1
		emit "a"; => ~!type at m in 1
		emit []; => ~!type at m in 1
		emit [{}]; => ~!type at m in 2
		emit len; => ~!type at m in 1
		emit fn() => {}; => ~!type at m in 1
		def f() = {}; emit f; => ~!type at m in 1
		let f = fn() => {a: 1}; emit f(); => ~m{a: 1} in 5
		emit {_: 1}; let _ = 1; => ~m{_: 1} in 3
	`)
}

func TestEachKindOfERun(t *testing.T) {
	wantRuns(t, `
		emit {v: none}; => ~m{v: none} in 2
		emit {v: [false, true]}; => ~m{v: [false, true]} in 4
		emit {v: 9223372036854775807}; => ~m{v: 9223372036854775807} in 2
		emit {v: "a\00\ff"}; => ~m{v: "a\00\ff"} in 2
		let a = 3; emit {v: a}; => ~m{v: 3} in 3
		emit {v: not false, w: -3, x: not not false, y: --3}; => ~m{v: true, w: -3, x: false, y: 3} in 11
		emit {v: 1 + 2 * 3 - 4}; => ~m{v: 3} in 8
		emit {v: 7 / -2, w: 7 % -2}; => ~m{v: -4, w: -1} in 9
		emit {v: 1 < 2, w: "a" >= "b", x: [1] == [1], y: {} != {}, z: 1 == "1"}; => ~m{v: true, w: false, x: true, y: false, z: false} in 18
		emit {v: "abc" has "bc", w: [1] has 1, x: {a: 1} has "a"}; => ~m{v: true, w: true, x: true} in 12
		emit {v: []}; => ~m{v: []} in 2
		emit {v: [1, "a", [none], {}]}; => ~m{v: [1, "a", [none], {}]} in 7
		emit {b: 1, a: 2, "": 3, "A b": 4}; => ~m{"": 3, "A b": 4, a: 2, b: 1} in 5
		emit {v: {b: {c: 4}, a: 5}}; => ~m{v: {a: 5, b: {c: 4}}} in 5
		emit {v: [5, 6][0], w: [5, 6][1]}; => ~m{v: 5, w: 6} in 11
		emit {v: "abc"[0], w: "a\ffc"[1]}; => ~m{v: "a", w: "\ff"} in 7
		emit {v: {a: 1, "b c": 2}["b c"], w: {a: 1}["a"]}; => ~m{v: 2, w: 1} in 10
		emit {v: {a: {b: 7}}.a.b}; => ~m{v: 7} in 6
		emit {v: if true then 1 else 1 / 0, w: if false then 1 / 0 else 2}; => ~m{v: 1, w: 2} in 7
		emit {v: let x = 1 in let y = x + 1 in [x, y]}; => ~m{v: [1, 2]} in 10
		emit {v: [x * x for x in [1, 2, 3]]}; => ~m{v: [1, 4, 9]} in 15
		emit {v: [x for x in [1, 2, 3] if x != 2]}; => ~m{v: [1, 3]} in 17
		emit {v: [1 / 0 for x in []], w: [1 / 0 for x in [1] if false]}; => ~m{v: [], w: []} in 7
		emit {v: [[x, y] for x in [1, 2]][1]}; => ~unfit at m in 0
		emit {v: [[[x, y] for y in [x, 5]] for x in [1, 2]]}; => ~m{v: [[[1, 1], [1, 5]], [[2, 2], [2, 5]]]} in 25
		emit {v: (fn(x) => x + 1)(2)}; => ~m{v: 3} in 7
		emit {v: (fn() => none)()}; => ~m{v: none} in 4
	`)
}

func TestOrAndAndRun(t *testing.T) {
	wantRuns(t, `
		let a = true or true; => ~in 2
		let a = true or false; => ~in 2
		let a = false and true; => ~in 2
		emit {v: [false or true, false or false, true and true, true and false]}; => ~m{v: [true, false, true, false]} in 14
		emit {v: [true or 1 / 0, false and fail("no"), true or len, false and 1]}; => ~m{v: [true, false, true, false]} in 10
		let a = false or 1; => ~!type at m in 3
		let a = true and 1; => ~!type at m in 3
		let a = false or len; => ~!type at m in 3
		let a = true and none; => ~!type at m in 3
		let a = 1 or true; => ~!type at m in 2
		let a = none and false; => ~!type at m in 2
		let a = 1 or 1 / 0; => ~!type at m in 2
		let a = len and 1 / 0; => ~!type at m in 2
		let a = false or 1 / 0; => ~!divide at m in 5
		let a = true and fail("w"); => ~!w at m in 5
		let a = false and true or true and not false; => ~in 7
	`)
}

func TestIndexesAndDots(t *testing.T) {
	wantRuns(t, `
		let a = [5, 6][-1]; => ~!range at m in 6
		let a = [5, 6][2]; => ~!range at m in 5
		let a = [][0]; => ~!range at m in 3
		let a = ""[0]; => ~!range at m in 3
		let a = "abc"[3]; => ~!range at m in 3
		let a = "abc"[-1]; => ~!range at m in 4
		let a = [1][9223372036854775807]; => ~!range at m in 4
		let a = "a"[-9223372036854775807 - 1]; => ~!range at m in 6
		let a = {a: 1}["b"]; => ~!key at m in 4
		let a = {}[""]; => ~!key at m in 3
		let a = {}.a; => ~!key at m in 2
		let a = {a: 1}.b; => ~!key at m in 3
		let a = {a: {}}.a.b; => ~!key at m in 4
		let a = {}[0]; => ~!type at m in 3
		let a = {a: 1}[none]; => ~!type at m in 4
		let a = [1]["0"]; => ~!type at m in 4
		let a = [1][true]; => ~!type at m in 4
		let a = "a"["a"]; => ~!type at m in 3
		let a = 5[0]; => ~!type at m in 3
		let a = none[0]; => ~!type at m in 3
		let a = true["a"]; => ~!type at m in 3
		let a = [].a; => ~!type at m in 2
		let a = "a".a; => ~!type at m in 2
		let a = none.a; => ~!type at m in 2
		let a = 1.a; => ~!type at m in 2
		let a = len.a; => ~!type at m in 2
		let a = len[1 / 0]; => ~!type at m in 2
		let a = none[1 / 0]; => ~!divide at m in 5
		let a = [1][len]; => ~!type at m in 4
	`)
}

func TestFunctionsThatAreNoValues(t *testing.T) {
	wantRuns(t, `
		let a = [len]; => ~!type at m in 2
		let a = [1, fn(x) => x, 1 / 0]; => ~!type at m in 3
		let a = [1 / 0, len]; => ~!divide at m in 4
		let a = {b: len, c: 1 / 0}; => ~!type at m in 2
		let a = {b: 1 / 0, c: len}; => ~!divide at m in 4
		let a = len + 1 / 0; => ~!type at m in 2
		let a = 1 / 0 + len; => ~!divide at m in 4
		let a = len == len; => ~!type at m in 2
		let a = 1 == len; => ~!type at m in 3
		let a = not len; => ~!type at m in 2
		let a = -len; => ~!type at m in 2
		let a = [len for x in []]; => ~in 2
		let a = [len for x in [1]]; => ~!type at m in 4
		let a = [1 for x in len]; => ~!type at m in 2
		let a = [1 for x in [1] if len]; => ~!type at m in 4
		let a = if len then 1 else 2; => ~!type at m in 2
		let a = len(len); => ~!type at m in 3
		let a = text(fn(x) => x); => ~!type at m in 3
		def f() = 1; let a = [f]; => ~!type at m in 2
		def f() = len; let a = 1 + f(); => ~!type at m in 5
		let a = fn(x) => x; let b = a; let c = if true then b else 1; let d = let e = c in e; emit {v: d(1)}; => ~m{v: 1} in 13
		let a = if 1 == 1 then len else fail; emit {v: a("abc")}; => ~m{v: 3} in 9
		let a = let f = len in f; emit {v: a("ab")}; => ~m{v: 2} in 7
		def twice(f, x) = f(f(x)); emit {v: twice(fn(x) => x * 3, 2)}; => ~m{v: 18} in 16
		def add(n) = fn(m) => n + m; emit {v: add(3)(4)}; => ~m{v: 7} in 10
		def f(g = len) = g; emit {v: f()("abc")}; => ~m{v: 3} in 7
		def pick(which) = if which then len else fn(x) => [x]; emit {v: pick(true)([]), w: pick(false)([])}; => ~m{v: 0, w: [[]]} in 19
	`)
}

func TestWhatIsNoBoolListOrFunction(t *testing.T) {
	wantRuns(t, `
		let a = if 1 then 1 / 0 else 1 / 0; => ~!type at m in 2
		let a = if none then 1 else 2; => ~!type at m in 2
		let a = [1 / 0 for x in "ab"]; => ~!type at m in 2
		let a = [1 / 0 for x in {a: 1}]; => ~!type at m in 3
		let a = [1 / 0 for x in none]; => ~!type at m in 2
		let a = [1 / 0 for x in [1] if 1]; => ~!type at m in 4
		let a = [x for x in [true, none] if x]; => ~!type at m in 7
		let a = 1(1 / 0); => ~!type at m in 2
		let a = "len"([]); => ~!type at m in 2
		let a = none(); => ~!type at m in 2
		let a = [len](); => ~!type at m in 3
		let a = {}.a(1); => ~!key at m in 3
		let a = not 1; => ~!type at m in 2
		let a = -"1"; => ~!type at m in 2
		let a = 1 + "1"; => ~!type at m in 3
		let a = "a" - 1 / 0; => ~!divide at m in 5
		let a = none < none; => ~!type at m in 3
		let a = 9223372036854775807 + 1; => ~!range at m in 3
		let a = -(-9223372036854775807 - 1); => ~!range at m in 5
		let a = 1 % 0; => ~!divide at m in 3
		let a = {} + []; => ~!type at m in 3
	`)
}

func TestParametersAndDefaults(t *testing.T) {
	wantRuns(t, `
		def f(n, k = n * 2, m = k + n) = [n, k, m]; emit {v: f(1)}; => ~m{v: [1, 2, 3]} in 14
		def f(n, k = n * 2, m = k + n) = [n, k, m]; emit {v: f(1, 5)}; => ~m{v: [1, 5, 6]} in 12
		def f(n, k = n * 2, m = k + n) = [n, k, m]; emit {v: f(1, m = 5)}; => ~m{v: [1, 2, 5]} in 12
		def f(n, k = n * 2, m = k + n) = [n, k, m]; emit {v: f(m = 1, k = 7, n = 2)}; => ~m{v: [2, 7, 1]} in 10
		def f(n, k = n * 2, m = k + n) = [n, k, m]; emit {v: f(1, 2, 3)}; => ~m{v: [1, 2, 3]} in 10
		let y = 5; def f(x, y = y) = [x, y]; emit {v: f(1)}; => ~m{v: [1, 5]} in 9
		def f(x = x) = x; let x = 3; emit {v: f()}; => ~m{v: 3} in 6
		def f(x = y, y = 1) = [x, y]; let y = 7; emit {v: f()}; => ~m{v: [7, 1]} in 9
		def f(x = y, y = 1) = [x, y]; emit {v: f()}; => ~unfit at m in 0
		def f(x = len, len = 2) = x("abc") + len; emit {v: f()}; => ~m{v: 5} in 10
		let n = 1; let f = fn(x) => n + x; def g(n) = f(n); emit {v: g(10)}; => ~m{v: 11} in 12
		def f(x, g = fn(y) => [x, y]) = g(3); emit {v: f(2)}; => ~m{v: [2, 3]} in 11
		def f(x, g = let x = x + 1 in [x for x in [x, x]]) = [x, g]; emit {v: f(2)}; => ~m{v: [2, [3, 3]]} in 17
		def f(x, y = fail("y"), z = fail("z")) = x; emit {v: f(1, z = 2)}; => ~!y at m < m.f in 8
		def f(x, y = fail("y"), z = fail("z")) = x; emit {v: f(1, 2)}; => ~!z at m < m.f in 8
		def f(x, y = fail("y"), z = fail("z")) = x; emit {v: f(1, z = 2, y = 3)}; => ~m{v: 1} in 7
		def f(x, y = len) = y(x); emit {v: f("abc"), w: f([], y = fn(x) => x)}; => ~m{v: 3, w: []} in 16
		def f(a, b, c, d, e, g, h, i) = [a, b, c, d, e, g, h, i]; emit {v: f(1, 2, 3, 4, 5, 6, 7, 8)}; => ~m{v: [1, 2, 3, 4, 5, 6, 7, 8]} in 20
		def f(a = none) = a; emit {v: f(none), w: f(a = none)}; => ~m{v: none, w: none} in 9
	`)
}

func TestArgsThatDoNotFit(t *testing.T) {
	wantRuns(t, `
		def f(a) = a; let b = f(); => ~!args at m in 2
		def f(a) = a; let b = f(1, 2); => ~!args at m in 4
		def f(a) = a; let b = f(c = 1); => ~!args at m in 3
		def f(a) = a; let b = f(1, a = 2); => ~!args at m in 4
		def f(a) = a; let b = f(1, c = 2); => ~!args at m in 4
		def f(a, b) = a; let c = f(b = 1); => ~!args at m in 3
		def f(a, b = 1) = a; let c = f(b = 1); => ~!args at m in 3
		def f(a, b = 1 / 0) = a; let c = f(); => ~!args at m in 2
		def f(a = 1 / 0, b = 1) = a; let c = f(b = 1, c = 2); => ~!args at m in 4
		def f() = 1; let a = f(1); => ~!args at m in 3
		let a = (fn() => 1)(1); => ~!args at m in 3
		let a = (fn(x) => 1)(x = 1, y = 2); => ~!args at m in 4
		def f(a) = a; let b = f(1, 1 / 0); => ~!divide at m in 6
		def f(a) = a; let b = f(c = 1 / 0); => ~!divide at m in 5
		def f(a) = a; let b = f(1, 2, c = fail("w")); => ~!w at m in 7
		let b = len(s = 1); => ~!args at m in 3
		let b = len("a", s = 1); => ~!args at m in 4
		let b = len(len, s = 1); => ~!args at m in 4
		let b = len(len, s = len); => ~!args at m in 4
		let b = len(len, s = 1 / 0); => ~!divide at m in 6
		let b = len(len, 1 / 0); => ~!divide at m in 6
		let b = len(1, len); => ~!type at m in 4
		let b = files(s = "a"); => ~!args at m in 3
		let b = fail(s = "a"); => ~!args at m in 3
		let b = fail(len, s = "a"); => ~!args at m in 4
		let b = len(); => ~!type at m in 2
		let b = len("a", "b"); => ~!type at m in 4
		def g(x) = f(x, x); def f(a) = a; let b = g(1); => ~!args at m < m.g in 7
	`)
}

func TestEachBuiltNameRun(t *testing.T) {
	wantRuns(t, `
		emit {v: [len("abc"), len([1, 2]), len({})]}; => ~m{v: [3, 2, 0]} in 13
		emit {v: [text("a"), text(-1), text([1, "a"])]}; => ~m{v: ["a", "-1", "[1, \22a\22]"]} in 14
		emit {v: [int("12"), int("-9223372036854775808")]}; => ~m{v: [12, -9223372036854775807 - 1]} in 8
		emit {v: range(3), w: range(0)}; => ~m{v: [0, 1, 2], w: []} in 7
		emit {v: sorted([3, 1, 3])}; => ~m{v: [1, 3, 3]} in 7
		emit {v: unique([3, 1, 3])}; => ~m{v: [3, 1]} in 7
		emit {v: join(["a", "b"], ", ")}; => ~m{v: "a, b"} in 7
		emit {v: split("a.b.", ".")}; => ~m{v: ["a", "b", ""]} in 5
		emit {v: keys({b: 1, a: 2})}; => ~m{v: ["a", "b"]} in 6
		emit {v: record([["b", 1], ["a", 2]])}; => ~m{v: {a: 2, b: 1}} in 10
		emit {v: without({a: 1, b: 2}, "a")}; => ~m{v: {b: 2}} in 7
		emit {v: begins("abc", "ab")}; => ~m{v: true} in 5
		emit {v: cut("abc", 1, 2), w: cut([1, 2], 0, 2)}; => ~m{v: "b", w: [1, 2]} in 13
		emit {v: files("a"), w: files(""), x: files("zz"), y: files("a.c")}; => ~m{v: ["a.c", "ab"], w: ["a.c", "ab", "b.c"], x: [], y: ["a.c"]} in 13
		let a = fail("it is so"); => ~!it is so at m in 3
		let a = fail(""); => ~! at m in 3
		def f() = fail(""); let a = f(); => ~! at m < m.f in 5
		let a = fail("type"); => ~!type at m in 3
		let a = fail(1); => ~!type at m in 3
		let a = fail(); => ~!type at m in 2
		let a = fail("a", "b"); => ~!type at m in 4
		let a = files(1); => ~!type at m in 3
		let a = files(); => ~!type at m in 2
		let a = files("a", "b"); => ~!type at m in 4
		let a = int("x"); => ~!range at m in 3
		let a = range(-1); => ~!range at m in 4
		let a = range(201); => ~!large at m in 3
		let a = record([["a", 1], ["a", 2]]); => ~!key at m in 9
		let a = join([1], ""); => ~!type at m in 5
		let a = split("a", ""); => ~!range at m in 4
		let a = cut("abc", 2, 1); => ~!range at m in 5
		let a = len(none); => ~!type at m in 3
		let f = files; let g = fail; let a = [f("b"), g("x")]; => ~!x at m in 9
	`)
}

func TestNamesThatAreHidden(t *testing.T) {
	wantRuns(t, `
		let len = 5; def f(text, len = text) = let text = len in [len + text for len in [text]]; emit {v: f(2), w: len}; => ~m{v: [4], w: 5} in 15
		let x = 1; emit {v: let x = x + 1 in let x = x * 5 in x, w: x}; => ~m{v: 10, w: 1} in 12
		let x = 1; emit {v: [x for x in [x, 2]], w: [[x for x in [x]] for x in [3]], x: x}; => ~m{v: [1, 2], w: [[3]], x: 1} in 16
		let x = 1; def f(x) = fn(x) => let x = x + 1 in x; emit {v: f(2)(3), w: x}; => ~m{v: 4, w: 1} in 14
		let x = 1; def f(y) = x + y; def g(x) = f(x); emit {v: let x = 100 in g(10)}; => ~m{v: 11} in 13
		def f(f) = f + 1; emit {v: f(2)}; => ~m{v: 3} in 7
		def len(x) = 7; emit {v: len("abc")}; => ~m{v: 7} in 5
		emit {v: let len = fn(x) => 8 in len("abc"), w: len("abc")}; => ~m{v: 8, w: 3} in 10
		emit {v: [len for len in [len("ab")]]}; => ~m{v: [2]} in 7
		let files = 3; emit {v: files}; => ~m{v: 3} in 3
		let fs = [1, 2]; let g = [fn(y) => y for x in fs]; => ~!type at m in 6
	`)
	// Functions keep the names of the place in which they were made.
	wantRuns(t, `
		def make(x) = fn() => x; let a = make(1); let b = make(2); emit {v: [a(), b(), a()]}; => ~m{v: [1, 2, 1]} in 19
		emit {v: [(let y = x in fn(z) => y * z)(10) for x in [1, 2, 3]]}; => ~m{v: [10, 20, 30]} in 30
		def f(n, g = fn() => 0) = if n == 0 then g() else f(n - 1, fn() => n + g()); emit {v: f(3)}; => ~m{v: 6} in 54
		def count(n, f = fn(m) => m) = if n == 0 then f(0) else count(n - 1, f = fn(m) => f(m) + n); emit {v: count(2)}; => ~m{v: 3} in 43
	`)
}

func TestEarly(t *testing.T) {
	wantRuns(t, `
		let a = b; let b = 1; => ~!early at m in 1
		let a = a; => ~!early at m in 1
		let a = [a]; => ~!early at m in 2
		let a = f(1); def f(x) = x; => ~!early at m in 2
		let a = f; def f(x) = x; => ~!early at m in 1
		let a = len([1]); def len(x) = 7; => ~!early at m in 2
		emit {v: a}; let a = 1; => ~!early at m in 2
		def f(x) = b + x; let a = f(1); let b = 2; => ~!early at m < m.f in 5
		def f(x) = b + x; let b = 2; emit {v: f(1)}; => ~m{v: 3} in 8
		def f(x = b) = x; let a = f(); let b = 2; => ~!early at m < m.f in 3
		def f(x = b) = x; let a = f(1); let b = 2; => ~in 5
		def f() = g(); def g() = 1; emit {v: f()}; => ~m{v: 1} in 6
		let f = fn() => f; let g = f(); emit {v: g()()()()(1)}; => ~!args at m in 16
		let a = if true then 1 else b; let b = 2; => ~in 4
		let a = true or b; let b = true; => ~in 3
		let a = fn() => b; let b = 2; emit {v: a()}; => ~m{v: 2} in 6
		let a = (fn() => b)(); let b = 2; => ~!early at m < m.fn in 3
	`)
	wantPacks(t, `!early at m in 1 read ["m"] asked []`, "lib", "let x = 1;", "m", `let a = x; load "lib": x;`)
	wantPacks(t, `m{v: 1} in 5 read ["lib" "m"] asked []`, "lib", "let x = 1;", "m", `def f() = x; load "lib": x; emit {v: f()};`)
	wantPacks(t, `!early at m < m.f in 3 read ["m"] asked []`, "lib", "let x = 1;", "m", `def f() = x; let a = f(); load "lib": x;`)
	wantPacks(t, `!early at lib < lib.f in 3 read ["lib" "m"] asked []`, "lib", "def f() = b; let a = f(); let b = 2;", "m", `load "lib": f; emit {v: f()};`)
}

func TestTraces(t *testing.T) {
	wantRuns(t, `
		def f(x) = x / 0; let a = f(1); => ~!divide at m < m.f in 6
		def f(x) = g(x) + 1; def g(x) = h(x); def h(x) = x.y; let a = f({}); => ~!key at m < m.f < m.g < m.h in 12
		def f(x) = 1 / x; def g(x) = f(x) + 1 / 0; let a = g(1); => ~!divide at m < m.g in 13
		def f(x) = 1 / x; def g(x) = f(f(x)); let a = g(0); => ~!divide at m < m.g < m.f in 11
		def f(x, y) = x; let a = f(1, f(2, 1 / 0)); => ~!divide at m in 9
		def f(x, y) = x; let a = f(1, f(2, f(3))); => ~!args at m in 9
		let f = fn(x) => x / 0; let a = f(1); => ~!divide at m < m.fn in 7
		let a = (fn(x) => (fn(y) => y / x)(1))(0); => ~!divide at m < m.fn < m.fn in 9
		def f(x) = fn(y) => y / x; let a = f(0)(1); => ~!divide at m < m.fn in 9
		def f(x, y = g(x)) = y; def g(x) = x / 0; let a = f(1); => ~!divide at m < m.f < m.g in 9
		def f(x) = x / 0; let g = f; let h = let i = g in i; let a = h(1); => ~!divide at m < m.f in 10
		def f(x) = x(1); let a = f(fail); => ~!type at m < m.f in 6
		def f(x) = x("w"); let a = f(fail); => ~!w at m < m.f in 6
		def f(x) = 1; def g(x) = f(f(f(x))); emit {v: [g(1), 1 / 0]}; => ~!divide at m in 18
	`)
	wantPacks(t, `!divide at lib < lib.g in 7 read ["lib" "m"] asked []`,
		"lib", "def g(x) = 1 / x;", "m", `load "lib": g; emit {v: g(0)};`)
	wantPacks(t, `!divide at m < lib.map < m.fn in 14 read ["lib" "m"] asked []`,
		"lib", "def map(f, l) = [f(x) for x in l];", "m", `load "lib": map; emit {v: map(fn(x) => 1 / x, [0])};`)
	wantPacks(t, `!args at lib < lib.map in 12 read ["lib" "m"] asked []`,
		"lib", "def map(f, l) = [f(x, x) for x in l];", "m", `load "lib": map; emit {v: map(fn(x) => 1, [0])};`)
	wantPacks(t, `!args at m in 5 read ["lib" "m"] asked []`,
		"lib", "def g(x) = 1 / x;", "m", `load "lib": g; emit {v: g(x = 0, y = 1)};`)
	wantPacks(t, `!no at lib < m.outer < lib.g in 9 read ["lib" "m"] asked []`,
		"lib", `def g(x, y = fail("no")) = 1;`, "m", `load "lib": g; def outer(x) = g(x); let a = outer(1);`)
	// A built name has no package: the E that calls it is where it ends.
	wantPacks(t, `!w at m < m.f in 6 read ["lib" "m"] asked []`,
		"lib", `let stop = fail;`, "m", `load "lib": stop; def f() = stop("w"); let a = f();`)
	wantPacks(t, `!type at m in 7 read ["lib" "m"] asked []`,
		"lib", `def f() = len;`, "m", `load "lib": f; def g() = 1; let a = [g(), f()];`)
}

// chained is a text in which so many calls are under way, each from the one before it.
func chained(calls int, last string) string {
	src := fmt.Sprintf("def f%d(x) = %s; ", calls, last)
	for i := calls - 1; i >= 1; i-- {
		src += fmt.Sprintf("def f%d(x) = f%d(x); ", i, i+1)
	}
	return src
}

func TestMaxCalls(t *testing.T) {
	trace := func(called string, times int) string { return strings.Repeat(" < "+called, times) }
	wantRuns(t, `
		def d(n) = if n == 0 then 0 else d(n - 1) + 1; emit {v: d(29)}; => ~m{v: 29} in 328
		def f(n) = f(n); let a = f(1); => ~!deep at m`+trace("m.f", 30)+` in 93
		let a = (fn(f, n) => f(f, n))(fn(f, n) => f(f, n + 1), 0); => ~!deep at m`+trace("m.fn", 30)+` in 182
	`)
	chain := "m{v: 1} in 92"
	wantRun(t, chained(30, "x")+"emit {v: f1(1)};", chain)
	names := ""
	for i := range 30 {
		names += fmt.Sprint(" < m.f", i+1)
	}
	// A built name may be called then, and a function may be made, but not called.
	wantRun(t, chained(30, `len("a")`)+"emit {v: f1(1)};", "m{v: 1} in 94")
	wantRun(t, chained(30, "fn(y) => y")+"emit {v: f1(1)(2)};", "m{v: 2} in 95")
	wantRun(t, chained(30, "g(x)")+"def g(x) = x; emit {v: f1(1)};", "!deep at m"+names+" in 94")
	wantRun(t, chained(29, "g(x)")+"def g(x) = x; emit {v: f1(1)};", "m{v: 1} in 92")
	// deep comes ahead of args, but behind all that ends the run in an arg.
	wantRun(t, chained(30, "g(1, 2, z = 3)")+"def g(x) = x; emit {v: f1(1)};", "!deep at m"+names+" in 96")
	wantRun(t, chained(30, "g(1, 2, z = 1 / 0)")+"def g(x) = x; emit {v: f1(1)};", "!divide at m"+names+" in 98")
	wantRun(t, chained(30, "g(h(1))")+"def g(x) = x; def h(x) = 1 / 0; emit {v: f1(1)};", "!deep at m"+names+" in 96")
	wantRun(t, chained(30, "1(h(1))")+"def h(x) = 1 / 0; emit {v: f1(1)};", "!type at m"+names+" in 93")
	wantRun(t, chained(30, "len(h(1))")+"def h(x) = 1; emit {v: f1(1)};", "!deep at m"+names+" in 96")
	// A default belongs to its call.
	wantRun(t, chained(29, "g()")+"def g(x = h()) = x; def h() = 1; emit {v: f1(1)};", "!deep at m"+names[:len(names)-len(" < m.f30")]+" < m.g in 92")
	wantRun(t, chained(28, "g()")+"def g(x = h()) = x; def h() = 1; emit {v: f1(1)};", "m{v: 1} in 91")
	// Calls that have come to an end don't count.
	wantRun(t, "def f(x) = x; emit {v: ["+strings.Repeat("f(f(f(0))), ", 40)+"f(1)]};", "m{v: ["+strings.Repeat("0, ", 40)+"1]} in "+fmt.Sprint(2+40*10+4))
	wantPacks(t, `!deep at m`+trace("lib.f < m.g", 15)+` in 110 read ["lib" "m"] asked []`,
		"lib", "def f(g, x) = g(x);", "m", `load "lib": f; def g(x) = f(g, x); emit {v: f(g, 0)};`)
}

func TestMaxTold(t *testing.T) {
	sixty := strings.Repeat("emit {};", 60)
	wantRun(t, sixty, strings.Repeat("m{} ", 60)+"in 60")
	wantRun(t, sixty+"emit {};", "!told at m in 61")
	wantRun(t, sixty+"emit 1;", "!type at m in 61")
	wantRun(t, sixty+"emit {a: 1 / 0};", "!divide at m in 64")
	wantRun(t, sixty+"let a = 1; def f() = 1;", strings.Repeat("m{} ", 60)+"in 61")
	wantPacks(t, `!told at m in 62 read ["lib" "m"] asked []`, "lib", sixty+"let x = 1;", "m", `load "lib": x; emit {};`)
	wantPacks(t, `!told at lib in 62 read ["lib" "m"] asked []`, "lib", "let x = 1;"+sixty[8:], "m", `emit {}; emit {}; load "lib": x;`)
	wantPacks(t, strings.Repeat("lib{} ", 59)+`m{} in 61 read ["lib" "m"] asked []`, "lib", "let x = 1;"+sixty[8:], "m", `load "lib": x; emit {};`)
}

func TestMaxSteps(t *testing.T) {
	const long = "let l = range(68); let a = [len([1 for y in l]) for x in l];"
	const left = 5000 - (3 + 2 + 68*(2+2+68))
	wantRun(t, long, fmt.Sprint("in ", 5000-left))
	ones := func(n int) string { return "let b = [" + strings.TrimSuffix(strings.Repeat("1, ", n), ", ") + "];" }
	wantRun(t, long+ones(left-1), "in 5000")
	wantRun(t, long+ones(left-2), "in 4999")
	wantRun(t, long+ones(left), "!steps at m in 5000")
	wantRun(t, long+ones(left-1)+"def f(x) = x;", "in 5000")
	wantRun(t, long+ones(left-1)+"emit {};", "!steps at m in 5000")
	wantRun(t, long+ones(left-1)+"emit 1 / 0;", "!steps at m in 5000")
	wantRun(t, long+ones(left-2)+"emit 1 / 0;", "!steps at m in 5000")
	wantRun(t, long+ones(left-2)+"emit 1;", "!type at m in 5000")
	wantRun(t, long+ones(left-3)+"let c = fail(1 / 0);", "!steps at m in 5000")
	wantRun(t, long+ones(left-4)+`let c = fail("w");`, "!w at m in 5000")
	wantRun(t, long+ones(left-3)+"def f(x = 1) = 2; let c = f();", "!steps at m < m.f in 5000")
	wantRun(t, long+ones(left-4)+"def f(x = 1) = 2; let c = f();", "!steps at m < m.f in 5000")
	wantRun(t, long+ones(left-5)+"def f(x = 1) = 2; let c = f();", "in 5000")
	wantRun(t, "def f(n) = if n == 0 then 0 else f(n - 1) + f(n - 1); emit {v: f(20)};", "!steps at m"+strings.Repeat(" < m.f", 20)+" in 5000")
	wantRun(t, "let l = range(90); let x = [len([a for a in l]) for b in l];", "!steps at m in 5000")
	texts := map[string]string{"lib": "def f(x) = [x for y in range(200)]; " + long, "m": `load "lib": f; let a = [f(0), f(1)];`}
	out := impl.Run(worldOf(nil, texts), "m")
	if got := story(out); got != "!steps at lib < lib.f in 5000" {
		t.Error(got)
	}
	texts["lib"] = long + "let b = [1 for x in range(200)];"
	texts["m"] = `load "lib": b; emit {};`
	if got := whole(impl.Run(worldOf(nil, texts), "m")); got != `!steps at lib in 5000 read ["lib" "m"] asked []` {
		t.Error(got)
	}
}

func TestValuesThatGetTooLarge(t *testing.T) {
	rows := func(n int) string {
		return "let r = range(199); let a = [r, r, r, r, cut(r, 0, " + fmt.Sprint(n) + ")];"
	}
	wantRuns(t, rows(198)+` => ~in 13
		`+rows(199)+` => ~!large at m in 13
		let r = range(199); let a = [r for x in range(5)]; => ~!large at m in 12
		let r = range(199); let a = [[r for x in range(5)], 1 / 0]; => ~!large at m in 13
		let r = range(199); let a = [[r, r, r, r, r], 1 / 0]; => ~!large at m in 10
		let r = range(199); let a = [r, r, r, r, r, 1 / 0]; => ~!divide at m in 12
		let r = range(199); let a = [if x == 5 then 1 / 0 else r for x in range(6)]; => ~!divide at m in 39
		let r = range(199); let a = {a: r, b: r, c: r, d: r, e: cut(r, 0, 193)}; => ~in 13
		let r = range(199); let a = {a: r, b: r, c: r, d: r, e: cut(r, 0, 194)}; => ~!large at m in 13
		let r = range(200); let a = r + [1]; => ~!large at m in 7
		let a = [1 for x in range(200)]; => ~in 204
		let a = [[[[[[[[[[[[[]]]]]]]]]]]]]; => ~in 13
		let a = [[[[[[[[[[[[1]]]]]]]]]]]]; => ~in 13
		let a = [[[[[[[[[[[[[1]]]]]]]]]]]]]; => ~!large at m in 14
		let a = [[[[[[[[[[[[[{}, 1 / 0]]]]]]]]]]]]]; => ~!divide at m in 17
		let a = {a: {a: {a: {a: {a: {a: {a: {a: {a: {a: {a: {a: 1}}}}}}}}}}}}; => ~in 13
		let a = {a: {a: {a: {a: {a: {a: {a: {a: {a: {a: {a: {a: {a: 1}}}}}}}}}}}}}; => ~!large at m in 14
		def d(n) = if n == 0 then [] else [d(n - 1)]; emit {v: d(11)}; => ~m{v: [[[[[[[[[[[[]]]]]]]]]]]]} in 119
		def d(n) = if n == 0 then [] else [d(n - 1)]; emit {v: d(12)}; => ~!large at m in 129
		def d(n) = if n == 0 then [] else [d(n - 1)]; emit {v: d(13)}; => ~!large at m < m.d in 139
	`)
	long := strings.Repeat("x", 500)
	wantRun(t, `let a = "`+long+`"; let b = a + a; emit {v: len(b)};`, "m{v: 1000} in 8")
	wantRun(t, `let a = "`+long+`"; let b = a + a + "x";`, "!large at m in 6")
	wantRun(t, `let a = "`+long+`"; let b = text([a, a]);`, "!large at m in 6")
	wantRun(t, `let a = "`+long+`"; let b = join([a, a], "-");`, "!large at m in 7")
}
