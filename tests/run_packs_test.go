package tests

import (
	"fmt"
	"slices"
	"strings"
	"testing"

	"loop.example/kilnclay/impl"
)

func TestLoads(t *testing.T) {
	wantPacks(t, `m{v: [7, 7]} in 8 read ["lib" "m"] asked []`,
		"lib", "let v = 7; def f(x) = [x, x];", "m", `load "lib": f, v; emit {v: f(v)};`)
	// Statements are run in order: what lib tells stands where it is loaded.
	wantPacks(t, `m{a: 1} lib{b: 2} m{c: 3} in 8 read ["lib" "m"] asked []`,
		"lib", "let x = 3; let y = 0; emit {b: 2};", "m", `emit {a: 1}; load "lib": x; emit {c: x};`)
	wantPacks(t, `m{v: 6} in 11 read ["lib" "m"] asked []`,
		"lib", "let _h = 2; def _g(x) = x * _h; def f(x) = _g(x);", "m", `load "lib": f; emit {v: f(3)};`)
	wantPacks(t, `m{v: 4} in 10 read ["lib" "m"] asked []`,
		"lib", "let x = 3; let f = fn(y) => x + y;", "m", `load "lib": f; let x = 100; emit {v: f(1)};`, "other", "broken")
	// What is loaded hides what is built.
	wantPacks(t, `m{v: 5} in 5 read ["lib" "m"] asked []`,
		"lib", "def len(x) = 5;", "m", `load "lib": len; emit {v: len("a")};`)
	wantPacks(t, `m{v: 1} in 6 read ["lib" "m"] asked []`,
		"lib", "let size = len;", "m", `load "lib": size; let len = 3; emit {v: size("a")};`)
	wantPacks(t, `b{n: 1} a{n: 2} m{v: [1, 1]} in 10 read ["a" "b" "m"] asked []`,
		"a", `load "b": x; let y = x; emit {n: 2};`, "b", "emit {n: 1}; let x = 1; def f() = 2;", "m", `load "a": y; load "b": x; emit {v: [x, y]};`)
	wantPacks(t, `!no at lib/a-1.b < lib/a-1.b.f in 6 read ["lib/a-1.b" "m"] asked []`,
		"lib/a-1.b", `def f() = fail("no");`, "m", `load "lib/a-1.b": f; emit {v: f()};`)
}

// Promise 10.
func TestLoadedTwiceRunOnce(t *testing.T) {
	wantPacks(t, `lib{a: ["a.c", "ab"]} m{v: 3} in 8 read ["lib" "m"] asked ["a"]`,
		"lib", `emit {a: files("a")}; let x = 1; let y = 2;`, "m", `load "lib": x; load "lib": y; emit {v: 3};`)
	wantPacks(t, `lib{a: 1} a{} b{} m{v: true} in 11 read ["a" "b" "lib" "m"] asked []`,
		"lib", "emit {a: 1}; let x = 1;",
		"a", `load "lib": x; let y = x; emit {};`, "b", `load "lib": x; let z = x; emit {};`,
		"m", `load "a": y; load "b": z; load "lib": x; emit {v: y == z};`)
	wantPacks(t, `d{} c{} b{} a{} m{} in 9 read ["a" "b" "c" "d" "m"] asked []`,
		"d", "let x = 1; emit {};", "c", `load "d": x; let c = x; emit {};`, "b", `load "c": c; load "d": x; let b = c; emit {};`,
		"a", `load "b": b; load "c": c; load "d": x; let a = b; emit {};`, "m", `load "a": a; load "b": b; load "c": c; load "d": x; emit {};`)
}

// Promise 10.
func TestPackagesThatLoadEachOther(t *testing.T) {
	wantPacks(t, `!cycle at m in 0 read ["m"] asked []`, "m", `load "m": y; let x = 1;`)
	wantPacks(t, `!cycle at m in 1 read ["m"] asked []`, "m", `let x = 1; load "m": _y, z;`)
	wantPacks(t, `!cycle at a in 2 read ["a" "m"] asked []`,
		"a", `let x = 1; load "m": y;`, "m", `let y = 1; load "a": x;`)
	wantPacks(t, `!cycle at b in 3 read ["a" "b" "m"] asked ["q"]`,
		"a", `load "b": x; let y = x;`, "b", `let x = files("q"); load "a": y;`, "m", `load "a": y;`)
	wantPacks(t, `!cycle at c in 0 read ["a" "b" "c" "m"] asked []`,
		"a", `load "b": x;`, "b", `load "c": x;`, "c", `load "a": x;`, "m", `load "a": x;`)
	texts := map[string]string{"a": `emit {}; def x() = 1; load "b": y;`, "b": `emit {}; let y = 1; load "a": x;`}
	for name, other := range map[string]string{"a": "b", "b": "a"} {
		out := impl.Run(worldOf(nil, texts), name)
		if out.Code != 4 || out.Word != "cycle" || out.At != other || !slices.Equal(out.Read, []string{"a", "b"}) || len(out.Told) > 0 {
			t.Errorf("%s: %s", name, whole(out))
		}
	}
}

func TestNamesThatCantBeLoaded(t *testing.T) {
	const lib = `load "deep": z; let x = 1; let _y = 2; def f(p) = let q = p in q;`
	for _, name := range []string{"none_such", "_y", "z", "p", "q", "len", "files", "_", "_z"} {
		wantPacks(t, `!name at m in 3 read ["deep" "lib" "m"] asked []`, "deep", "let z = 1;", "lib", lib, "m", `load "lib": `+name+";")
		wantPacks(t, `!name at m in 3 read ["deep" "lib" "m"] asked []`, "deep", "let z = 1;", "lib", lib, "m", `load "lib": x, f, `+name+";")
	}
	// The package is run ahead of looking at the names, the first time and no more.
	wantPacks(t, `!divide at lib in 3 read ["lib" "m"] asked []`, "lib", "let x = 1 / 0;", "m", `load "lib": _x;`)
	wantPacks(t, `!name at m in 1 read ["lib" "m"] asked []`, "lib", "let x = 1;", "m", `load "lib": x; load "lib": y; let z = 1;`)
	wantPacks(t, `!name at lib in 1 read ["deep" "lib" "m"] asked []`, "deep", "let x = 1;", "lib", `load "deep": y; let x = 1;`, "m", `load "lib": x;`)
	// A package that makes a name twice by loading it does not fit.
	wantPacks(t, `unfit at m in 0 read ["m"] asked []`, "lib", "let x = 1;", "m", `load "lib": x; load "lib": x;`)
}

func TestPackagesMissingOrUnfit(t *testing.T) {
	wantPacks(t, `missing at gone in 0 read ["gone" "m"] asked []`, "m", `load "gone": x;`)
	wantPacks(t, `missing at gone in 0 read ["gone" "m"] asked []`, "m", `load "gone": _x;`)
	wantPacks(t, `missing at gone in 5 read ["a" "gone" "m"] asked ["q"]`,
		"a", `let x = files("q"); load "gone": y;`, "m", `let z = 1; emit {}; load "a": x;`)
	wantPacks(t, `missing at m in 0 read ["m"] asked []`, "lib", "let x = 1;")
	wantPacks(t, `!type at m in 1 read ["m"] asked []`, "m", `emit 1; load "gone": x;`)
	wantPacks(t, `!type at m in 1 read ["m"] asked []`, "bad", "emit", "m", `emit 1; load "bad": x;`)
	for _, text := range []string{
		"\x00", "let x = ;", "let", "let x = 1", "1;", "let x = 01;", "let x = \"", strings.Repeat("emit {};", 201), "emit {a: 1, a: 2};",
		"let x = y;", "let x = 1; let x = 2;", "def f(a, a) = 1;", "def f(a = 1, b) = 1;", `load "M": x;`, `load "": x;`,
	} {
		wantPacks(t, `unfit at m in 0 read ["m"] asked []`, "m", text)
		wantPacks(t, `unfit at lib in 4 read ["lib" "m"] asked ["a"]`, "lib", text, "m", `let a = files("a"); emit {}; load "lib": x;`)
		wantPacks(t, `m{} in 1 read ["m"] asked []`, "lib", text, "m", `emit {};`)
	}
}

func TestAsked(t *testing.T) {
	wantPacks(t, `in 13 read ["m"] asked ["" "a" "a.c" "zz"]`,
		"m", `let a = [files("zz"), files("a"), files(""), files("a.c")];`)
	wantPacks(t, `!w at m in 13 read ["m"] asked ["a" "b"]`,
		"m", `let a = [files("b"), files("a"), files("b"), fail("w"), files("c")];`)
	wantPacks(t, `!type at m in 4 read ["m"] asked []`, "m", `let a = files("a", "b");`)
	wantPacks(t, `!type at m in 3 read ["m"] asked []`, "m", `let a = files(1);`)
	wantPacks(t, `!type at m in 4 read ["m"] asked []`, "m", `let a = files(["a"]);`)
	wantPacks(t, `!args at m in 4 read ["m"] asked []`, "m", `let a = files("a", b = 1);`)
	wantPacks(t, `!divide at m in 11 read ["m"] asked ["a"]`, "m", `let a = len(files("a")) + 1 / (2 - 2);`)
	wantPacks(t, `in 2 read ["m"] asked []`, "m", `let a = true or files("a");`)
	wantPacks(t, `m{v: [["a.c", "ab"], ["b.c"]]} in 12 read ["lib" "m"] asked ["a" "b"]`,
		"lib", `def look(s) = files(s); let a = look("a");`, "m", `load "lib": a; emit {v: [a, files("b")]};`)
	wantPacks(t, `in 3 read ["m"] asked ["\xff\x00"]`, "m", `let a = files("\ff\00");`)
}

func TestExampleOfTheDocument(t *testing.T) {
	texts := map[string]string{
		"lib": `def lib(name, deps = []) = {name: name, tool: "cc", ins: [name + ".c"] + deps, outs: [name + ".o"]};` + "\n",
		"main": `load "lib": lib;
let all = [cut(f, 0, len(f) - 2) for f in files("") if f has ".c"];
emit lib("x", deps = ["x.h"]);
let rest = [lib(n) for n in all if n != "x"];
emit rest[0];
`,
	}
	w := worldOf([]string{"x.c", "y.c"}, texts)
	want := `main{ins: ["x.c", "x.h"], name: "x", outs: ["x.o"], tool: "cc"} main{ins: ["y.c"], name: "y", outs: ["y.o"], tool: "cc"} in 74 read ["lib" "main"] asked [""]`
	if got := whole(impl.Run(w, "main")); got != want {
		t.Errorf("got %s", got)
	}
	if v, ok := impl.Look(w, "main", "all"); !ok || impl.FormValue(v) != `["x", "y"]` {
		t.Errorf("%s", brief(v))
	}
}

// wantNoWorld asks for a world that is not valid, whatever is run there.
func wantNoWorld(t *testing.T, what string, w impl.World) {
	t.Helper()
	if impl.ValidWorld(w) {
		t.Errorf("%s: valid", what)
	}
	for _, name := range []string{"m", "a", "gone", "", "M"} {
		if got := whole(impl.Run(w, name)); got != "not valid in 0 read [] asked []" {
			t.Errorf("%s: %s", what, got)
		}
		if v, ok := impl.Look(w, name, "x"); ok || len(v.Atoms) > 0 {
			t.Errorf("%s: %s", what, brief(v))
		}
	}
}

// manyPacks are so many packages, the last of them m.
func manyPacks(size int) []impl.File {
	var files []impl.File
	for i := range size - 1 {
		files = append(files, impl.File{Name: fmt.Sprintf("a%02d", i), Text: "let x = 1;"})
	}
	return append(files, impl.File{Name: "m", Text: "let x = 1;"})
}

func manyNames(size int) []string {
	var names []string
	for i := range size {
		names = append(names, fmt.Sprintf("n%02d", i))
	}
	return names
}

func TestValidWorlds(t *testing.T) {
	m := impl.File{Name: "m", Text: "let x = 1;"}
	for what, w := range map[string]impl.World{
		"one package":               {Files: []impl.File{m}},
		"names in order":            {Files: []impl.File{m}, Names: []string{"\x00", " ", "-", "A", "a", "a\x00", "aa", "b", "\xff"}},
		"packages in order":         {Files: []impl.File{{Name: "-"}, {Name: "."}, {Name: "/"}, {Name: "0"}, {Name: "_"}, {Name: "a"}, {Name: "a-"}, {Name: "a.b/c_9"}, m}},
		"as many packages":          {Files: manyPacks(20)},
		"as many names":             {Files: []impl.File{m}, Names: manyNames(60)},
		"a long text":               {Files: []impl.File{{Name: "m", Text: m.Text + strings.Repeat(" ", 8000-len(m.Text))}}},
		"a text that is no tree":    {Files: []impl.File{{Name: "a", Text: "\x00\xff"}, m}},
		"a long name":               {Files: []impl.File{m}, Names: []string{strings.Repeat("n", 1000)}},
		"a package of a long name":  {Files: []impl.File{m, {Name: strings.Repeat("n", 30)}}},
		"a name that is no package": {Files: []impl.File{m}, Names: []string{"m", "m m"}},
	} {
		if !impl.ValidWorld(w) {
			t.Errorf("%s: not valid", what)
		}
		if got := whole(impl.Run(w, "m")); got != `in 1 read ["m"] asked []` {
			t.Errorf("%s: %s", what, got)
		}
		if v, ok := impl.Look(w, "m", "x"); !ok || !sameValue(v, given(1)) {
			t.Errorf("%s: %s", what, brief(v))
		}
	}
	if !impl.ValidWorld(impl.World{}) || whole(impl.Run(impl.World{}, "m")) != `missing at m in 0 read ["m"] asked []` {
		t.Error("the empty world")
	}
}

func TestWorldsThatAreNotValid(t *testing.T) {
	m := impl.File{Name: "m", Text: "let x = 1;"}
	for what, w := range map[string]impl.World{
		"one package too many":          {Files: manyPacks(21)},
		"one name too many":             {Files: []impl.File{m}, Names: manyNames(61)},
		"packages not in order":         {Files: []impl.File{m, {Name: "a"}}},
		"packages nearly in order":      {Files: []impl.File{{Name: "a"}, {Name: "c"}, {Name: "b"}, m}},
		"a package twice":               {Files: []impl.File{m, m}},
		"names not in order":            {Files: []impl.File{m}, Names: []string{"b", "a"}},
		"a longer name ahead":           {Files: []impl.File{m}, Names: []string{"aa", "a"}},
		"names not by their bytes":      {Files: []impl.File{m}, Names: []string{"a", "B"}},
		"a name twice":                  {Files: []impl.File{m}, Names: []string{"a", "b", "b"}},
		"an empty name":                 {Files: []impl.File{m}, Names: []string{"", "a"}},
		"an empty name alone":           {Files: []impl.File{m}, Names: []string{""}},
		"a name too long":               {Files: []impl.File{m}, Names: []string{strings.Repeat("n", 1001)}},
		"a name too long at last":       {Files: []impl.File{m}, Names: []string{"a", strings.Repeat("n", 1001)}},
		"a text too long":               {Files: []impl.File{{Name: "m", Text: m.Text + strings.Repeat(" ", 8001-len(m.Text))}}},
		"another text too long":         {Files: []impl.File{m, {Name: "z", Text: strings.Repeat(" ", 8001)}}},
		"a package of too long a name":  {Files: []impl.File{m, {Name: strings.Repeat("n", 31)}}},
		"a package without a name":      {Files: []impl.File{{}, m}},
		"a package with a capital":      {Files: []impl.File{{Name: "M"}, m}},
		"a package with a gap":          {Files: []impl.File{m, {Name: "m m"}}},
		"a package with another letter": {Files: []impl.File{m, {Name: "é"}}},
		"many of all":                   {Files: manyPacks(300), Names: manyNames(99)},
	} {
		wantNoWorld(t, what, w)
	}
}

func TestNamesOfPackages(t *testing.T) {
	w := worldOf(threeNames(), map[string]string{"m": "emit {};", "a-b.c/d_9": "emit {};", strings.Repeat("n", 30): "emit {};"})
	for _, file := range w.Files {
		if got := whole(impl.Run(w, file.Name)); got != fmt.Sprintf("%s{} in 1 read [%q] asked []", file.Name, file.Name) {
			t.Error(got)
		}
	}
	for _, name := range []string{"z", "lib", "0", ".", "/", "-", "_", "if", "len", "m/", strings.Repeat("n", 29)} {
		if got := whole(impl.Run(w, name)); got != fmt.Sprintf("missing at %s in 0 read [%q] asked []", name, name) {
			t.Error(got)
		}
	}
	for _, name := range []string{"", "M", "m ", " m", "m\n", "m\x00", "m:", "é", "\xff", "m\\", "m*", strings.Repeat("n", 31), strings.Repeat("n", 3000)} {
		if got := whole(impl.Run(w, name)); got != "not valid in 0 read [] asked []" {
			t.Errorf("%q: %s", name, got)
		}
	}
}

func TestLook(t *testing.T) {
	w := worldOf(threeNames(), map[string]string{
		"lib":   "let v = 1; let f = fn() => 2; emit {a: 1};",
		"m":     `load "lib": v, f; let a = [v, {b: "c"}]; let g = fn(x) => x; def h() = 1; let _i = v; let k = f(); let len = none; let b = len; let c = text; let fs = files("a"); let l = false; let t = let u = 1 in u; def p(q) = q;`,
		"ends":  "let a = 1; let b = 1 / 0;",
		"gone":  `let a = 1; load "none_such": x;`,
		"bad":   "let a = 1; let a = 2;",
		"round": `let a = 1; load "round": b;`,
		"empty": "",
	})
	for name, want := range map[string]string{
		"a": `[1, {b: "c"}]`, "_i": "1", "k": "2", "len": "none", "b": "none", "fs": `["a.c", "ab"]`, "l": "false", "t": "1",
	} {
		if v, ok := impl.Look(w, "m", name); !ok || !impl.ValidValue(v) || impl.FormValue(v) != want {
			t.Errorf("%s: %v, %s", name, ok, impl.FormValue(v))
		}
	}
	none := func(pack, name string) {
		t.Helper()
		if v, ok := impl.Look(w, pack, name); ok || len(v.Atoms) != 0 {
			t.Errorf("%s of %s: %s", name, pack, brief(v))
		}
	}
	for _, name := range []string{"v", "f", "g", "h", "p", "q", "u", "x", "c", "text", "files", "none_such", "", "A", "if", "a ", "lib", "m", "b: 1", strings.Repeat("a", 31)} {
		none("m", name)
	}
	for _, pack := range []string{"ends", "gone", "bad", "round", "empty", "none_such", "", "M", "m "} {
		none(pack, "a")
		none(pack, "")
	}
	if v, ok := impl.Look(w, "lib", "v"); !ok || !sameValue(v, given(1)) {
		t.Errorf("%s", brief(v))
	}
}

// scribble writes into all of an Outcome, spare room as well.
func scribble(out impl.Outcome) {
	for _, texts := range [][]string{out.Trace, out.Read, out.Asked} {
		texts = texts[:cap(texts)]
		for i := range texts {
			texts[i] = "changed"
		}
	}
	for i := range out.Told {
		atoms := out.Told[i].Value.Atoms
		for k := range atoms[:cap(atoms)] {
			atoms[:cap(atoms)][k] = impl.Atom{Kind: 99, Text: "changed"}
		}
	}
}

func TestRunAnswersAreNew(t *testing.T) {
	files := append(worldOf(nil, map[string]string{
		"ends": `load "lib": l; def f() = fail("w"); let a = [files("b"), files("a"), f()];`,
		"lib":  `let l = files("a");`,
		"m":    `load "lib": l; let r = {a: l, b: [1, 2]}; emit r; emit {v: r}; emit r; let a = files("b");`,
	}).Files, impl.File{Name: "room"})
	names := append(threeNames(), "room")
	w := impl.World{Files: files[:3], Names: names[:3]}
	before := fmt.Sprint(files, names)
	for range 2 {
		for name, want := range map[string]string{
			"m":    `m{a: ["a.c", "ab"], b: [1, 2]} m{v: {a: ["a.c", "ab"], b: [1, 2]}} m{a: ["a.c", "ab"], b: [1, 2]} in 15 read ["lib" "m"] asked ["a" "b"]`,
			"ends": `!w at ends < ends.f in 15 read ["ends" "lib"] asked ["a" "b"]`,
		} {
			out := impl.Run(w, name)
			if got := whole(out); got != want || fmt.Sprint(files, names) != before {
				t.Errorf("%s\n%s", got, want)
			}
			if len(out.Told) == 3 {
				scribble(impl.Outcome{Told: out.Told[:1]})
				if got := impl.FormValue(out.Told[2].Value); got != `{a: ["a.c", "ab"], b: [1, 2]}` {
					t.Errorf("two records share: %s", got)
				}
			}
			scribble(out)
		}
		v, ok := impl.Look(w, "m", "r")
		if !ok || impl.FormValue(v) != `{a: ["a.c", "ab"], b: [1, 2]}` || fmt.Sprint(files, names) != before {
			t.Errorf("%s", brief(v))
		}
		scribble(impl.Outcome{Told: []impl.Told{{Value: v}}})
	}
}

// A chain of as many packages as there may be, each of which loads from the next.
func TestAllPackagesOfAWorld(t *testing.T) {
	texts, want := map[string]string{"p19": "let x19 = 19; emit {n: x19};"}, ""
	for i := range 19 {
		texts[fmt.Sprintf("p%02d", i)] = fmt.Sprintf(`load "p%02d": x%d; let x%d = x%d - 1; emit {n: x%d};`, i+1, i+1, i, i+1, i)
	}
	for i := 19; i >= 0; i-- {
		want += fmt.Sprintf("p%02d{n: %d} ", i, i)
	}
	out := impl.Run(worldOf(nil, texts), "p00")
	if got := story(out); got != want+fmt.Sprint("in ", 3+19*5) || len(out.Read) != 20 || !slices.IsSorted(out.Read) {
		t.Errorf("%s read %q", got, out.Read)
	}
}
