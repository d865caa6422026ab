package tests

import (
	"strings"
	"testing"

	"loop.example/kilnclay/impl"
)

// foldedText is the text of a package that is folded, if it can be printed.
func foldedText(src string) (string, bool) {
	tree, fault := impl.Parse(src)
	if fault.Code != 0 {
		return "", false
	}
	folded := impl.Fold(tree)
	text := impl.Print(folded)
	return text, text != "" || len(folded.Nodes) == 1
}

// checkFoldedRuns asks promise 9 of a world in which each package alone, and then all of them, are folded. It tells how many there were.
func checkFoldedRuns(t *testing.T, w impl.World, name string) int {
	t.Helper()
	want, texts, folded := impl.Run(w, name), textsOf(w), 0
	for pack, src := range texts {
		if text, ok := foldedText(src); ok {
			texts[pack] = text
			folded++
			checkSameButSteps(t, w, withText(w, pack, text), name, want)
		}
	}
	checkSameButSteps(t, w, worldOf(w.Names, texts), name, want)
	return folded
}

func checkSameButSteps(t *testing.T, w, other impl.World, name string, want impl.Outcome) {
	t.Helper()
	got := impl.Run(other, name)
	if got.Steps > want.Steps {
		t.Fatalf("%s\n%s\n%d steps, want at most %d", worldText(w), worldText(other), got.Steps, want.Steps)
	}
	if want.Word == "steps" {
		return
	}
	got.Steps = want.Steps
	if whole(got) != whole(want) {
		t.Fatalf("%s\n%s\ngot  %s\nwant %s", worldText(w), worldText(other), whole(got), whole(want))
	}
}

// Promise 9, of packages that are folded, alone and loaded by others.
func TestFoldedRunsTheSame(t *testing.T) {
	folded, ends, fewer := 0, map[string]int{}, 0
	eachDrawnWorld(10, 500, func(_ packDrawer, w impl.World) {
		for _, name := range []string{"m", "c."} {
			folded += checkFoldedRuns(t, w, name)
			out := impl.Run(w, name)
			ends[out.Word]++
			texts := textsOf(w)
			if text, ok := foldedText(texts[name]); ok && impl.Run(withText(w, name, text), name).Steps < out.Steps {
				fewer++
			}
		}
	})
	if folded < 3000 || fewer < 300 {
		t.Errorf("%d, %d", folded, fewer)
	}
	for _, word := range append(strings.Fields("args deep divide early key large name range type"), "") {
		if ends[word] == 0 {
			t.Errorf("none ends with %q", word)
		}
	}
}

// wantFewer runs a package and what it is folded to, and asks for both stories.
func wantFewer(t *testing.T, src, want, folded string) {
	t.Helper()
	w := worldOf(threeNames(), map[string]string{"m": src})
	if got := story(impl.Run(w, "m")); got != want {
		t.Errorf("%s\ngot  %s\nwant %s", src, got, want)
	}
	text, _ := foldedText(src)
	if got := story(impl.Run(withText(w, "m", text), "m")); got != folded {
		t.Errorf("%s\n%s\ngot  %s\nwant %s", src, text, got, folded)
	}
	checkFoldedRuns(t, w, "m")
}

func TestFoldedTakesFewerSteps(t *testing.T) {
	wantFewer(t, "emit {v: 1 + 2 * 3};", "m{v: 7} in 6", "m{v: 7} in 2")
	wantFewer(t, "emit {v: 1 - 2};", "m{v: -1} in 4", "m{v: -1} in 4")
	wantFewer(t, "emit {v: let x = 1 in x + len([x])};", "m{v: 2} in 9", "m{v: 2} in 7")
	wantFewer(t, "emit {v: if 1 < 2 then len([]) else 0};", "m{v: 0} in 8", "m{v: 0} in 4")
	wantFewer(t, "emit {v: true or fail(\"a\")};", "m{v: true} in 3", "m{v: true} in 2")
	wantFewer(t, "emit {v: false or fail(\"a\")};", "!a at m in 6", "!a at m in 6")
	wantFewer(t, "emit {v: true and 1};", "!type at m in 4", "!type at m in 4")
	wantFewer(t, "emit {v: false or len};", "!type at m in 4", "!type at m in 4")
	wantFewer(t, "emit {v: [1 + 1, 1 / 0, fail(\"a\")]};", "!divide at m in 8", "!divide at m in 6")
	wantFewer(t, "def h(n) = let k = 0 in n / k; emit {v: h(1 + 1)};", "!divide at m < m.h in 11", "!divide at m < m.h in 7")
	wantFewer(t, "emit {v: let x = 1 in (fn(y) => y(x))(x)};", "!type at m < m.fn in 8", "!type at m < m.fn in 6")
	wantFewer(t, "emit {v: let x = 1 in x(fail(\"a\"))};", "!type at m in 5", "!type at m in 3")
	wantFewer(t, "emit {v: let g = fail(\"a\") in 1 + 1};", "!a at m in 5", "!a at m in 5")
	wantFewer(t, "let a = if true then b else 1; let b = 1;", "!early at m in 3", "!early at m in 1")
	wantFewer(t, "let a = if false then b else 1; let b = files(\"a\" + \"b\"); emit {a: a, b: b};", "m{a: 1, b: [\"ab\"]} in 11", "m{a: 1, b: [\"ab\"]} in 7")
	wantFewer(t, "emit if 1 == 1 then 5 else {};", "!type at m in 5", "!type at m in 1")
}

// A run that ends with steps may come to its end when it is folded.
func TestFoldedUnlessItEndedWithSteps(t *testing.T) {
	const body = "let l = range(100); let v = [len([%s for y in cut(l, 0, 20)]) for x in l]; emit {v: len(v)};"
	src := strings.Replace(body, "%s", "1 + 1", 1)
	w := worldOf(nil, map[string]string{"m": src})
	if got := story(impl.Run(w, "m")); got != "!steps at m in 5000" {
		t.Error(got)
	}
	text, _ := foldedText(src)
	if got := story(impl.Run(withText(w, "m", text), "m")); got != "m{v: 100} in 2809" {
		t.Error(got)
	}
	checkFoldedRuns(t, w, "m")
	// One that ends with this word by itself does so when it is folded.
	wantFewer(t, `emit {v: [1 + 1, fail("ste" + "ps")]};`, "!steps at m in 10", "!steps at m in 6")
}

func TestFoldedAmongOthers(t *testing.T) {
	check := func(want string, files ...string) {
		t.Helper()
		wantPacks(t, want, files...)
		texts := map[string]string{}
		for i := 0; i < len(files); i += 2 {
			texts[files[i]] = files[i+1]
		}
		if folded := checkFoldedRuns(t, worldOf(threeNames(), texts), "m"); folded != len(texts) {
			t.Errorf("%d of %d", folded, len(texts))
		}
	}
	check(`lib{n: 2} m{v: 6, w: 3} in 28 read ["lib" "m"] asked []`,
		"lib", "let n = 1 + 1; def f(a, b = let k = 1 in k + n) = a * b; emit {n: n};",
		"m", `load "lib": n, f; emit {v: f(n), w: f(1)};`)
	check(`!divide at lib < lib.f in 10 read ["lib" "m"] asked []`,
		"lib", "def f(a) = let z = 0 in if true then a / z else a;",
		"m", `load "lib": f; let v = f(1);`)
	check(`!cycle at a in 4 read ["a" "m"] asked []`,
		"a", `let x = if true then 1 else y; load "m": y;`,
		"m", `let z = 1; load "a": x; let y = x + (1 + 1);`)
	check(`!name at m in 6 read ["lib" "m"] asked ["a"]`,
		"lib", `let _x = 1; let l = let p = "a" in files(p);`,
		"m", `load "lib": l, _x; emit {l: l};`)
}
