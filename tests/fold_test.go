package tests

import (
	"fmt"
	"slices"
	"strings"
	"testing"

	"loop.example/kilnclay/impl"
)

// foldFrame is the package in which wantFolds puts an E: f and g are names of the file, neither of them a constant in its place.
const foldFrame = "def f(a = 1) = a;\nlet g = 1;\nlet v = %s;\n"

// wantFolds reads lines `E => ~E` and asks for the second as what the first one is folded to; a line of one E alone stays as it is. It holds the second reading against them, too.
func wantFolds(t *testing.T, lines string) {
	t.Helper()
	for line := range strings.Lines(strings.TrimSpace(lines)) {
		e, want, folds := strings.Cut(strings.TrimSpace(line), " => ~")
		if !folds {
			want = e
		}
		wantFolded(t, fmt.Sprintf(foldFrame, e), fmt.Sprintf(foldFrame, want))
	}
}

// wantFolded asks for a text, and that a run of it tells the same.
func wantFolded(t *testing.T, src, want string) {
	t.Helper()
	tree := parsed(t, src)
	checkFold(t, tree)
	if got := impl.Print(impl.Fold(tree)); got != want {
		t.Errorf("Fold(%q)\ngot  %s\nwant %s", src, got, want)
	}
	checkFoldedRuns(t, worldOf(threeNames(), map[string]string{"m": src}), "m")
}

func wantNotFolded(t *testing.T, what string, tree impl.Tree) {
	t.Helper()
	if got := impl.Fold(tree); got.Nodes != nil {
		t.Errorf("Fold(%.90s): %d nodes", what, len(got.Nodes))
	}
}

func TestFoldOpsOfOne(t *testing.T) {
	wantFolds(t, `
		not true => ~false
		not false => ~true
		not not true => ~true
		not not not true => ~false
		-0 => ~0
		--0 => ~0
		-1
		-5
		--5
		---0 => ~0
		-9223372036854775807
		-(2 - 1) => ~-1
		-(1 - 1) => ~0
		-(1 - 2)
		not (1 == 1) => ~false
		not (-0 == 0) => ~false
		not none
		not 0
		not 1
		not "a"
		not ""
		not []
		not not 1
		-none
		-true
		-false
		-"a"
		-[1]
		not g
		-g
		not f(true)
		-f(0)
		-f(-0) => ~-f(0)
		not (fn() => true)
	`)
}

func TestFoldNumbers(t *testing.T) {
	wantFolds(t, `
		1 + 2 => ~3
		0 + 0 => ~0
		2 - 1 => ~1
		1 - 1 => ~0
		1 - 2
		0 - 1
		2 * 3 => ~6
		0 * 5 => ~0
		7 / 2 => ~3
		7 % 2 => ~1
		0 / 5 => ~0
		0 % 5 => ~0
		5 / 5 => ~1
		1 / 0
		1 % 0
		0 / 0
		0 % 0
		1 / (1 - 1) => ~1 / 0
		9223372036854775807
		9223372036854775807 + 0 => ~9223372036854775807
		9223372036854775806 + 1 => ~9223372036854775807
		9223372036854775807 + 1
		9223372036854775807 + 9223372036854775807
		9223372036854775807 * 1 => ~9223372036854775807
		9223372036854775807 * 2
		9223372036854775807 - 9223372036854775807 => ~0
		9223372036854775807 / 1 => ~9223372036854775807
		9223372036854775807 % 9223372036854775807 => ~0
		0 - 9223372036854775807
		-9223372036854775807 - 1
		0 - 9223372036854775807 - 1
		-(-9223372036854775807 - 1)
		-9223372036854775807 - 2
		3037000499 * 3037000499 => ~9223372030926249001
		3037000500 * 3037000500
		7 / -2
		-7 / 2
		7 % -2
		-7 % 2
		(-7 + 8) * 2
		1 + 2 * 3 => ~7
		(1 + 2) * 3 => ~9
		5 - 3 - 2 => ~0
		5 - 3 - 3 => ~2 - 3
		5 - (3 - 4)
		5 - (4 - 3) => ~4
		1 - 2 + 3
		1 + (2 - 3)
		1 + 2 + g => ~3 + g
		g + 1 + 2
		g + (1 + 2) => ~g + 3
		g - g
		g * 0
		0 * g
		0 * f(1)
	`)
}

func TestFoldTexts(t *testing.T) {
	wantFolds(t, `
		"a" + "b" => ~"ab"
		"a" + "b" + "c" => ~"abc"
		"a" + ("b" + "c") => ~"abc"
		"" + "" => ~""
		"\00" + "\ff\22" => ~"\00\ff\22"
		"a" + g + "b"
		"a" + ("b" + g)
		g + "a" + "b"
		"a" - "a"
		"a" * 2
		"a" / "a"
		"a" % "a"
		"a" + 1
		1 + "a"
		"a" + none
		"abc" has "b" => ~true
		"abc" has "" => ~true
		"" has "" => ~true
		"abc" has "ac" => ~false
		"abc" has 1
		1 has 1
		1 has "1"
		none has none
		true has true
		"a" has none
	`)
	// What is too large stays.
	for _, sizes := range [][3]int{{500, 500, 1000}, {500, 501, 0}, {1000, 0, 1000}, {1000, 1, 0}, {0, 1000, 1000}, {1000, 1000, 0}} {
		first, second := strings.Repeat("x", sizes[0]), strings.Repeat("\x00", sizes[1])
		tree := fileOf(binary(impl.OpAdd, text(first), text(second)))
		want := tree
		if sizes[2] > 0 {
			want = fileOf(text(first + second))
		}
		if got := impl.Fold(tree); !slices.Equal(got.Nodes, want.Nodes) {
			t.Errorf("%v: %d nodes", sizes, len(got.Nodes))
		}
		checkFold(t, tree)
	}
	wantFolded(t, `let x = "`+strings.Repeat("x", 999)+`" + "y" + "z";`, `let x = "`+strings.Repeat("x", 999)+`y" + "z";`+"\n")
}

func TestFoldComparisons(t *testing.T) {
	wantFolds(t, `
		1 == 1 => ~true
		1 == 2 => ~false
		1 != 2 => ~true
		1 != 1 => ~false
		none == none => ~true
		none != none => ~false
		none == false => ~false
		1 == "1" => ~false
		"" != none => ~true
		true == true => ~true
		true != 1 => ~true
		"a" == "a" => ~true
		1 < 2 => ~true
		2 < 2 => ~false
		2 <= 2 => ~true
		3 <= 2 => ~false
		2 > 1 => ~true
		2 > 2 => ~false
		2 >= 2 => ~true
		1 >= 2 => ~false
		"a" < "b" => ~true
		"b" <= "a" => ~false
		"" > "a" => ~false
		"ab" >= "a" => ~true
		false < true => ~true
		true <= false => ~false
		true > true => ~false
		false >= false => ~true
		none < none
		none <= none
		none > none
		none >= none
		1 < "a"
		true < 1
		"a" >= none
		g == g
		g != 1
		-1 == -1
		-1 < 0
		[] == []
		{} == {}
		[1] < [1 + 1] => ~[1] < [2]
		len == 1
		(1 < 2) == (3 < 4) => ~true
		1 + 1 == 2 => ~true
	`)
}

func TestFoldOrAndAnd(t *testing.T) {
	wantFolds(t, `
		true or true => ~true
		true or false => ~true
		false or true => ~true
		false or false => ~false
		true and true => ~true
		true and false => ~false
		false and true => ~false
		false and false => ~false
		true or none => ~true
		true or 1 => ~true
		true or "a" => ~true
		true or g => ~true
		true or f(1) => ~true
		true or 1 / 0 => ~true
		true or len => ~true
		true or (fn() => 1) => ~true
		false and none => ~false
		false and 1 => ~false
		false and "a" => ~false
		false and g => ~false
		false and f(1) => ~false
		false and 1 / 0 => ~false
		false and [1 for a in 2] => ~false
		false or none
		false or 1
		false or "a"
		false or g
		false or f(1)
		false or 1 / 0
		false or len
		true and none
		true and 1
		true and "a"
		true and g
		true and f(1)
		true and 1 / 0
		true and []
		none or true
		none and false
		1 or true
		0 and false
		"a" or "b"
		"" and true
		g or true
		g and false
		f(1) or true
		f(1) and false
		[] or true
		1 == 1 or g => ~true
		1 == 2 and g => ~false
		1 == 2 or g => ~false or g
		g or 1 == 1 => ~g or true
		false or (1 == 1) => ~true
		true and (false or true) => ~true
		true and g and false
		false and g and f(1) => ~false
		true or g or f(1) => ~true
		g or true or f(1)
		g or (true or f(1)) => ~g or true
		true and g or true
		not (true or g) => ~false
		not (false or g)
		false or true and g
		(false and g) or (true or g) => ~true
		(false and g) + 1 => ~false + 1
	`)
}

func TestFoldIf(t *testing.T) {
	wantFolds(t, `
		if true then 1 else 2 => ~1
		if false then 1 else 2 => ~2
		if 1 == 1 then f(1) else g => ~f(1)
		if 1 == 2 then f(1) else g => ~g
		if true then 1 + 1 else 1 / 0 => ~2
		if false then 1 / 0 else [1 + 1] => ~[2]
		if none then 1 + 1 else 2 => ~if none then 2 else 2
		if 0 then 1 else 2
		if 1 then 1 else 2
		if "true" then 1 else 2
		if [] then 1 else 2
		if g then 1 + 1 else 2 + 2 => ~if g then 2 else 4
		if g then 1 else 1
		if f(1) then true else false
		if true and g then 1 else 2
		if true or g then 1 else 2 => ~1
		if not true then 1 else 2 => ~2
		if if true then false else true then 1 else 2 => ~2
		if if g then true else true then 1 else 2
		if true then if false then 1 else f(1) else 2 => ~f(1)
		(if true then 1 else 2) + 3 => ~4
		(if g then 1 else 1) + 3
		(if true then f else len)(2) => ~f(2)
		(if false then f else fn(a) => a)(2) => ~(fn(a) => a)(2)
		[if true then 1 else 2, if false then 1 else 2] => ~[1, 2]
		if true then let x = g in x else 2 => ~let x = g in x
		(if true then let x = g in x else 2) + 1 => ~(let x = g in x) + 1
	`)
}

func TestFoldLet(t *testing.T) {
	wantFolds(t, `
		let x = 1 in x => ~1
		let x = none in x => ~none
		let x = true in x => ~true
		let x = "a" in x => ~"a"
		let x = 1 in 5 => ~5
		let x = 1 in g => ~g
		let x = 1 in [x, x, g, x] => ~[1, 1, g, 1]
		let x = 1 + 1 in x * x => ~4
		let x = f(1) in x
		let x = f(1) in 5
		let x = f(1) in x + (1 + 2) => ~let x = f(1) in x + 3
		let x = g in x
		let x = len in x("a")
		let x = fn() => 1 in x()
		let x = [] in x
		let x = {a: 1} in x.a
		let x = -1 in x
		let x = 1 - 2 in x
		let x = 1 / 0 in 5
		let x = not 1 in 5
		let x = -0 in x => ~0
		let x = if 1 < 2 then 7 else g in x + g => ~7 + g
		let x = if g then 1 else 1 in x
		let x = true or g in x => ~true
		let x = false or g in x
		let x = let y = 2 in y * 3 in x => ~6
		let x = let y = f(1) in 2 in x
		let x = let y = 2 in f(y) in x => ~let x = f(2) in x
		let x = 1 in let y = 2 in x + y => ~3
		let x = f(1) in let y = 2 in x + y => ~let x = f(1) in x + 2
		let x = 1 in let y = f(x) in x + y => ~let y = f(1) in 1 + y
		(let x = 1 in x) + (let x = 2 in x) => ~3
		[let x = 1 in x, let y = 2 in y] => ~[1, 2]
		(let x = 1 in f)(2) => ~f(2)
		(let x = 1 in f(x)).a => ~f(1).a
	`)
}

// What comes out is made anew once more, so that all that hangs on the constant is done.
func TestFoldLetOnceMore(t *testing.T) {
	wantFolds(t, `
		let x = 1 in if x == 1 then f(x) else 2 => ~f(1)
		let x = true in x or f(1) => ~true
		let x = false in x or f(1) => ~false or f(1)
		let x = true in if x then g else f(1) => ~g
		let x = 0 in -x => ~0
		let x = 1 in -x => ~-1
		let x = true in not x => ~false
		let x = "a" in x + x + x => ~"aaa"
		let x = 1 in let y = x in y => ~1
		let x = 1 in let y = x + 1 in let z = y * y in [x, y, z] => ~[1, 2, 4]
		let x = 1 in let y = -x in y => ~let y = -1 in y
		let x = 0 in let y = -x in y => ~0
		let x = 1 in let y = 2 in let z = x + y in let w = z * z in w + x => ~10
		let x = 1 in let y = if x == 1 then 2 else g in y => ~2
		let x = 1 in [let y = x in y + 1, let z = f(x) in z] => ~[2, let z = f(1) in z]
		let x = let y = 1 in y + 1 in let z = x in z + x => ~4
		let x = 1 in fn(y = x + 1) => x + 1 => ~fn(y = 2) => 2
		let x = 1 in [x + 1 for y in [x + 2] if x == 1] => ~[2 for y in [3] if true]
		let x = 1 in {a: x + 1, b: {c: x - 1}}.b => ~{a: 2, b: {c: 0}}.b
		let x = 2 in f(x * x, a = x + x)[x - 1] => ~f(4, a = 4)[1]
		let b = true in if b then let c = 1 in c + 1 else b => ~2
		let x = 1 in let y = g in let z = x + 1 in y + z => ~let y = g in y + 2
		let x = 9223372036854775807 in [x + 1, x - 1] => ~[9223372036854775807 + 1, 9223372036854775806]
		let x = 0 in [1 / x, x / 1] => ~[1 / 0, 0]
	`)
}

func TestFoldLetBinds(t *testing.T) {
	wantFolds(t, `
		let x = 1 in let x = 2 in x => ~2
		let x = 1 in let x = x + 1 in x => ~2
		let x = 1 in let x = f(x) in x => ~let x = f(1) in x
		let x = 1 in let x = f(x) in let y = x in x + y => ~let x = f(1) in let y = x in x + y
		let x = let x = 1 in x in x => ~1
		let x = 1 in (let x = 2 in x) + x => ~3
		let x = 1 in [let x = f(x) in x, x] => ~[let x = f(1) in x, 1]
		let x = 1 in [x for x in [x]] => ~[x for x in [1]]
		let x = 1 in [x for x in [x] if x == x] => ~[x for x in [1] if x == x]
		let x = 1 in [x + y for y in [x] if x == y] => ~[1 + y for y in [1] if 1 == y]
		let x = 1 in [[x for x in y] for y in [x]] => ~[[x for x in y] for y in [1]]
		let x = 1 in [let x = y in x for y in [x]] => ~[let x = y in x for y in [1]]
		let x = 1 in fn(x) => x => ~fn(x) => x
		let x = 1 in fn(y) => x => ~fn(y) => 1
		let x = 1 in fn() => fn() => x => ~fn() => fn() => 1
		let x = 1 in fn(y, z = x) => [x, y, z] => ~fn(y, z = 1) => [1, y, z]
		let x = 1 in fn(x = x) => x => ~fn(x = 1) => x
		let x = 1 in fn(a = x, x = x, b = x) => [a, x, b] => ~fn(a = 1, x = 1, b = x) => [a, x, b]
		let x = 1 in fn(x, a = fn(y = x) => x) => x => ~fn(x, a = fn(y = x) => x) => x
		let x = 1 in fn(a = fn(x = x) => x) => x => ~fn(a = fn(x = 1) => x) => 1
		let x = 1 in fn(a, b = let x = x in x) => x => ~fn(a, b = 1) => 1
		let x = 1 in fn(a, b = let x = a in x) => x => ~fn(a, b = let x = a in x) => 1
		let x = 1 in (fn(x = 2) => x)() + x => ~(fn(x = 2) => x)() + 1
		let x = 1 in (fn(y, x = x) => x)(x) => ~(fn(y, x = 1) => x)(1)
		let x = 1 in fn() => x() => ~fn() => 1()
		let x = 1 in x() => ~1()
		let x = 1 in x(x, y = x) => ~1(1, y = 1)
		let x = none in x() => ~none()
		let x = "a" in x.b => ~"a".b
		let x = "ab" in x[1] => ~"ab"[1]
		let x = 1 in [5, 6][x] => ~[5, 6][1]
		let x = 1 in f(x = x) => ~f(x = 1)
		let a = 1 in f(a = a) => ~f(a = 1)
		let x = 1 in {x: x, "y": x} => ~{x: 1, y: 1}
		let x = 1 in {x: 2}.x => ~{x: 2}.x
		let x = "x" in [x, "x"] => ~["x", "x"]
		let g = 2 in g => ~2
		let g = 2 in f(g) => ~f(2)
		let f = 1 in f => ~1
		let f = 1 in f(2) => ~1(2)
		let v = 1 in v => ~1
		let len = 1 in len => ~1
		let len = 1 in len("a") => ~1("a")
		let len = 1 in text(2) => ~text(2)
		let x = 1 in let y = 2 in let x = y in x + y => ~4
	`)
}

// No rule is there for these, whatever stands below them.
func TestFoldNothingElse(t *testing.T) {
	wantFolds(t, `
		none
		true
		0
		"a"
		g
		f
		len
		v
		g + 1
		len("a")
		len("a" + "b") => ~len("ab")
		int("1")
		range(3)
		[1] + [2]
		[1] has 1
		{a: 1} has "a"
		{a: 1} + {b: 2}
		{a: 1}.a
		{a: 1}["a"]
		[1, 2][0]
		"ab"[0]
		[]
		[1, 2 + 3, g] => ~[1, 5, g]
		{a: 1 + 1, "b c": {d: not true}} => ~{a: 2, "b c": {d: false}}
		[1 + 1][2 - 2] => ~[2][0]
		{a: 1 + 1}.a => ~{a: 2}.a
		f(1 + 1, a = 2 + 2) => ~f(2, a = 4)
		(fn() => 1)()
		(fn(a = 1) => a + 1)()
		fn(a = 1 + 1, b = a + 1) => 2 + 2 => ~fn(a = 2, b = a + 1) => 4
		fn() => 1
		[a + 1 for a in [1]]
		[1 for a in [1] if true]
		[1 for a in [1] if false]
		[1 for a in []]
		[1 + 1 for a in [1 + 2] if 1 == 1] => ~[2 for a in [3] if true]
		fail("a" + "b") => ~fail("ab")
		files("a" + "") => ~files("a")
		1(2 + 3) => ~1(5)
	`)
}

func TestFoldStatements(t *testing.T) {
	wantFolded(t, "", "")
	wantFolded(t, "let a = 1 + 1; let b = a + 1; emit {a: a, b: 1 + 1};", "let a = 2;\nlet b = a + 1;\nemit {a: a, b: 2};\n")
	wantFolded(t, "def h(a = 1 + 1, b = let x = 1 in [a, x]) = let x = 2 in a + x; emit h();", "def h(a = 2, b = [a, 1]) = a + 2;\nemit h();\n")
	wantFolded(t, "def h(x, y = let x = 1 in x) = let y = 2 in [x, y];", "def h(x, y = 1) = [x, 2];\n")
	wantFolded(t, "emit if true then {} else 1; emit true or 1;", "emit {};\nemit true;\n")
	wantFolded(t, `load "p": a, b; let c = let a = 1 in a; emit {v: a};`, "load \"p\": a, b;\nlet c = 1;\nemit {v: a};\n")
	wantFolded(t, "let a = 1; let b = let c = a in c; let d = a == 1;", "let a = 1;\nlet b = let c = a in c;\nlet d = a == 1;\n")
}

func TestFoldAtTheLimits(t *testing.T) {
	deepest := impl.MaxNest - 2
	for _, pair := range [][2]string{
		{strings.Repeat("-", deepest) + "0", "0"},
		{strings.Repeat("-", deepest) + "1", strings.Repeat("-", deepest) + "1"},
		{strings.Repeat("not ", deepest) + "true", "true"},
		{"1" + strings.Repeat(" + 1", deepest), "49"},
		{strings.Repeat("1 + (", deepest-1) + "1 + 1" + strings.Repeat(")", deepest-1), "49"},
		{strings.Repeat("if true then ", deepest) + "1" + strings.Repeat(" else 2", deepest), "1"},
		{strings.Repeat("if ", deepest) + "false" + strings.Repeat(" then true else false", deepest), "false"},
		{strings.Repeat("let a = 1 in ", deepest) + "a", "1"},
		{strings.Repeat("let a = ", deepest) + "1" + strings.Repeat(" in a", deepest), "1"},
		{"let a = 1 in " + strings.Repeat("let a = a + a in ", deepest-2) + "a + 0", "70368744177664"},
		{"let a = 1 in " + strings.Repeat("fn() => ", deepest-1) + "a", strings.Repeat("fn() => ", deepest-1) + "1"},
		{"let a = 1 in " + strings.Repeat("[", deepest-1) + "a" + strings.Repeat("]", deepest-1), strings.Repeat("[", deepest-1) + "1" + strings.Repeat("]", deepest-1)},
		{"[" + repeated("1 + 1", impl.MaxList) + "]", "[" + repeated("2", impl.MaxList) + "]"},
	} {
		wantFolded(t, "emit "+pair[0]+";", "emit "+pair[1]+";\n")
	}
	for _, nodes := range []int{impl.MaxNodes, impl.MaxNodes - 1} {
		src := bushes(nodes)
		if got := impl.Print(impl.Fold(parsed(t, src))); got != src {
			t.Errorf("%d nodes: %.90q", nodes, got)
		}
		zeros := strings.ReplaceAll(src, "1", "0")
		want := strings.Repeat("emit 0;\n", strings.Count(zeros, "\n"))
		if got := impl.Print(impl.Fold(parsed(t, zeros))); got != want {
			t.Errorf("%d nodes: %.90q", nodes, got)
		}
	}
}

// Many lets around many nodes that stay: all of them are made anew for each let.
func TestFoldManyNodesBelowManyLets(t *testing.T) {
	const lets, rows, row = 40, 24, 49
	sum := binary(impl.OpAdd, name("z"), number(1))
	lists := slices.Repeat([]plant{kind(impl.NodeList, slices.Repeat([]plant{sum}, row)...)}, rows)
	e := texted(impl.NodeLet, "z", kind(impl.NodeNone), kind(impl.NodeList, lists...))
	for i := range lets {
		e = texted(impl.NodeLet, "x"+strings.Repeat("x", i%20), number(int64(i)), e)
	}
	tree := fileOf(e)
	if len(tree.Nodes) > impl.MaxNodes || len(tree.Nodes) < impl.MaxNodes/2 {
		t.Fatalf("%d nodes", len(tree.Nodes))
	}
	stays := binary(impl.OpAdd, kind(impl.NodeNone), number(1))
	want := fileOf(kind(impl.NodeList, slices.Repeat([]plant{kind(impl.NodeList, slices.Repeat([]plant{stays}, row)...)}, rows)...))
	if got := impl.Fold(tree); !slices.Equal(got.Nodes, want.Nodes) {
		t.Errorf("%d nodes", len(got.Nodes))
	}
}

// A constant may stand in so many places that the tree is too long to be printed.
func TestFoldBeyondSource(t *testing.T) {
	long := text(strings.Repeat("x", impl.MaxText))
	uses := func(e plant) plant { return kind(impl.NodeList, slices.Repeat([]plant{e}, impl.MaxList)...) }
	tree := fileOf(texted(impl.NodeLet, "a", long, uses(name("a"))))
	want := fileOf(uses(long))
	got := impl.Fold(tree)
	if impl.Print(tree) == "" || impl.Print(got) != "" || !slices.Equal(got.Nodes, want.Nodes) {
		t.Errorf("%d nodes", len(got.Nodes))
	}
	wantTreeFits(t, got)
}

// Trees that are not valid or do not fit are folded to nothing; wantNotValid and wantTreeUnfit ask for it, too.
func TestFoldNothing(t *testing.T) {
	wantNotFolded(t, "nothing", impl.Tree{})
	wantNotFolded(t, "no nodes", impl.Tree{Nodes: []impl.Node{}})
	for _, src := range []string{
		"emit 1 + z;", "emit true or z;", "emit if true then 1 else z;", "emit let x = 1 in z;", "emit let x = x in x;",
		"let a = 1; let a = 2;", "emit fn(a, a) => 1 + 1;", "emit true or (fn(a, a) => 1);", "emit fn(a = 1, b) => 1;", "emit false and (fn(a = 1, b) => 1);",
		`load "p": a, a;`, `load "p": a; let a = 1;`, "def f() = 1; load \"p\": f;",
	} {
		wantNotFolded(t, src, parsed(t, src))
	}
	// A fault in what would be left out is one, too.
	for _, e := range []plant{
		binary(impl.OpOr, boolean(1), kind(99)), binary(impl.OpOr, boolean(1), number(-1)), binary(impl.OpAnd, boolean(0), name("if")),
		kind(impl.NodeIf, boolean(1), number(1), boolean(2)), texted(impl.NodeLet, "A", number(1), number(2)), unary(3, boolean(1)), binary(15, number(1), number(1)),
		binary(impl.OpAdd, number(1), text(strings.Repeat("x", impl.MaxText+1))),
	} {
		wantNotFolded(t, fmt.Sprint(e), fileOf(e))
	}
	wantNotFolded(t, "too deep", fileOf(nested(impl.MaxNest-1)))
	wantNotFolded(t, "too many", impl.Tree{Nodes: make([]impl.Node, impl.MaxNodes+1)})
}

func TestFoldAnswersAreNew(t *testing.T) {
	for _, src := range []string{
		"let a = let b = 1 + 1 in [b for c in [g, b]]; let g = a;",
		`load "p": a; def f(b, c = "x") = {d: [b, c]};`,
		"",
	} {
		want := parsed(t, src)
		folded := impl.Print(impl.Fold(want))
		room := append(slices.Clone(want.Nodes), impl.Node{Kind: 98}, impl.Node{Kind: 97})
		before := slices.Clone(room)
		tree := impl.Tree{Nodes: room[:len(want.Nodes)]}
		for range 2 {
			got := impl.Fold(tree)
			if printed := impl.Print(got); printed != folded || !slices.Equal(room, before) {
				t.Fatalf("%q, or changed: %+v", printed, room)
			}
			spare := got.Nodes[:cap(got.Nodes)]
			for i := range spare {
				spare[i] = impl.Node{Kind: 99, Text: "changed"}
			}
			if !slices.Equal(room, before) {
				t.Fatalf("changed: %+v", room)
			}
		}
	}
}
