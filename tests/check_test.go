package tests

import (
	"slices"
	"strings"
	"testing"

	"loop.example/kilnclay/impl"
)

func parsed(t *testing.T, src string) impl.Tree {
	t.Helper()
	tree, fault := impl.Parse(src)
	if fault.Code != 0 {
		t.Fatalf("Parse(%.90q): %+v", src, fault)
	}
	return tree
}

// wantBinds asks of a text that fits for the places that its nodes tell.
func wantBinds(t *testing.T, src string, want ...int) {
	t.Helper()
	tree := parsed(t, src)
	if fault := impl.Check(tree); fault != (impl.Fault{}) {
		t.Errorf("Check(%q): %+v", src, fault)
	}
	if got := impl.Binds(tree); !slices.Equal(got, want) {
		t.Errorf("Binds(%q): got %v, want %v", src, got, want)
	}
}

func wantUnfit(t *testing.T, src string, code, at int) {
	t.Helper()
	wantTreeUnfit(t, src, parsed(t, src), code, at)
}

// wantTreeUnfit asks for a fault, and for nothing from all that asks for a tree that fits.
func wantTreeUnfit(t *testing.T, what string, tree impl.Tree, code, at int) {
	t.Helper()
	if got := impl.Check(tree); got != (impl.Fault{Code: code, At: at}) {
		t.Errorf("Check(%.90q): got %+v, want code %d at %d", what, got, code, at)
	}
	if got := impl.Binds(tree); len(got) != 0 {
		t.Errorf("Binds(%.90q): %v", what, got)
	}
	if got := impl.Locals(tree); len(got) != 0 {
		t.Errorf("Locals(%.90q): %v", what, got)
	}
	wantNotFolded(t, what, tree)
	// Code 1 comes ahead of the others.
	for place := -1; place <= len(tree.Nodes); place++ {
		for _, name := range []string{"new", "len", "if", ""} {
			wantNotRenamed(t, tree, place, name, 1)
		}
	}
}

// builtNames are the document's built names, written a second time.
func builtNames() []string {
	return strings.Fields("len text int range sorted unique join split keys record without begins cut files fail")
}

func TestEachNodeThatMakesAName(t *testing.T) {
	wantBinds(t, "let a = 1; emit a;", -1, -1, 1, -1, -1)
	wantBinds(t, "def f() = 1; emit f();", -1, -1, 1, -1, -1, -1)
	wantBinds(t, `load "p": a, b; emit [b, a];`, -1, -1, -1, 1, 0, -1, -1, -1)
	wantBinds(t, "def f(a, b) = [b, a];", -1, -1, 1, 0, -1, -1, -1)
	wantBinds(t, "emit fn(a, b) => [b, a];", -1, -1, 1, 0, -1, -1, -1, -1)
	wantBinds(t, "emit let a = 1 in a;", -1, 2, -1, -1, -1)
	wantBinds(t, "emit [a for a in []];", -1, 2, -1, -1, -1)
	wantBinds(t, "emit [a for a in [] if a];", -1, 3, 3, -1, -1, -1)
	wantBinds(t, "", -1)
	wantBinds(t, `load "p": a;`, -1, -1, -1)
}

// What the file makes is known in all of it, ahead of its statement and inside it, too.
func TestNamesOfTheWholeFile(t *testing.T) {
	wantBinds(t, "emit a; let a = 1;", 3, -1, -1, -1, -1)
	wantBinds(t, "emit a; def a() = 1;", 3, -1, -1, -1, -1)
	wantBinds(t, `emit a; load "p": b, a;`, 3, -1, -1, -1, -1, -1)
	wantBinds(t, "let a = a;", 1, -1, -1)
	wantBinds(t, "def a() = a();", 2, -1, -1, -1)
	wantBinds(t, "let a = b; let b = a;", 3, -1, 1, -1, -1)
	wantBinds(t, "def f(a = b) = b; let b = 1;", 5, -1, 5, -1, -1, -1, -1)
	wantBinds(t, "emit fn(a = b) => [b for c in b if b]; let b = 1;", 9, -1, 9, 9, 9, -1, -1, -1, -1, -1, -1)
}

func TestBuiltNames(t *testing.T) {
	for _, built := range builtNames() {
		wantBinds(t, "emit "+built+";", -2, -1, -1)
		wantBinds(t, "def f(a = "+built+") = let b = "+built+" in ["+built+" for c in "+built+" if "+built+"];",
			-2, -1, -2, -2, -2, -2, -1, -1, -1, -1)
		for _, near := range []string{built + "_", "_" + built, built + "s", built[1:], built[:len(built)-1]} {
			if !slices.Contains(builtNames(), near) && !slices.Contains(words(), near) {
				wantUnfit(t, "emit "+near+";", 9, 0)
			}
		}
		// Each that is made hides it.
		wantBinds(t, "emit "+built+"; let "+built+" = 1;", 3, -1, -1, -1, -1)
		wantBinds(t, "emit "+built+"; def "+built+"() = 1;", 3, -1, -1, -1, -1)
		wantBinds(t, "emit "+built+`; load "p": `+built+";", 2, -1, -1, -1, -1)
		wantBinds(t, "def f("+built+" = "+built+") = "+built+";", -2, -1, 1, -1, -1)
		wantBinds(t, "emit fn("+built+" = "+built+") => "+built+";", -2, -1, 1, -1, -1, -1)
		wantBinds(t, "emit let "+built+" = "+built+" in "+built+";", -2, 2, -1, -1, -1)
		wantBinds(t, "emit ["+built+" for "+built+" in "+built+" if "+built+"];", -2, 3, 3, -1, -1, -1)
	}
	for _, none := range strings.Fields("list bool int64 str print emit_ sum min max map load_ sort name value run none_") {
		wantUnfit(t, "emit "+none+";", 9, 0)
	}
}

// What is known further inside hides what is outside; where it is not known the outer one is.
func TestWhatHidesWhat(t *testing.T) {
	wantBinds(t, "let a = 1; emit let a = a in a;", -1, -1, 1, 4, -1, -1, -1)
	wantBinds(t, "emit let a = 1 in let a = a in a;", -1, 4, 3, -1, -1, -1, -1)
	wantBinds(t, "emit let a = let a = 1 in a in a;", -1, 2, -1, 4, -1, -1, -1)
	wantBinds(t, "let a = []; emit [a for a in a if a];", -1, -1, 1, 5, 5, -1, -1, -1)
	wantBinds(t, "emit [[a for a in a] for a in []];", -1, 4, 3, -1, -1, -1, -1)
	wantBinds(t, "emit [a for a in [a for a in []]];", -1, 2, -1, 4, -1, -1, -1)
	wantBinds(t, "def f(f) = f;", -1, 0, -1, -1)
	wantBinds(t, "let a = 1; def f(a) = let a = a in a; emit a;", -1, -1, -1, 2, 5, -1, -1, 1, -1, -1)
	wantBinds(t, "emit fn(a) => fn(a) => a;", -1, -1, 1, -1, -1, -1, -1)
	wantBinds(t, "emit fn(a) => [fn(a) => a, a];", -1, -1, 1, -1, 0, -1, -1, -1, -1)
	wantBinds(t, "let a = 1; emit [let a = 2 in a, a];", -1, -1, -1, 4, -1, 1, -1, -1, -1)
	wantBinds(t, "let a = 1; emit [[a for a in []], a];", -1, -1, -1, 4, -1, 1, -1, -1, -1)
	wantBinds(t, "let a = 1; emit [fn(a) => a, a];", -1, -1, -1, 2, -1, 1, -1, -1, -1)
	wantBinds(t, "let a = let b = 1 in fn(b) => [b for b in b];", -1, -1, 1, 4, -1, -1, -1, -1, -1)
}

// A parameter is known in the defaults of those behind it and in the last E, not in its own default or in those ahead.
func TestDefaults(t *testing.T) {
	wantBinds(t, "def f(a, b = a, c = [a, b]) = [a, b, c];", -1, 0, -1, 0, 2, -1, -1, 0, 2, 6, -1, -1, -1)
	wantBinds(t, "emit fn(a, b = a, c = [a, b]) => [a, b, c];", -1, 0, -1, 0, 2, -1, -1, 0, 2, 6, -1, -1, -1, -1)
	wantBinds(t, "let a = 1; def f(a = a) = a;", -1, -1, 1, -1, 3, -1, -1)
	wantBinds(t, "let b = 1; def f(a = b, b = a) = b;", -1, -1, 1, -1, 3, -1, 5, -1, -1)
	wantBinds(t, "def f(f = f, g = f) = g(f);", 7, -1, 1, -1, 3, 1, -1, -1, -1)
	wantBinds(t, "emit fn(a, b = fn(a = a) => a) => a;", -1, 0, -1, 2, -1, -1, 0, -1, -1, -1)
	wantBinds(t, "emit fn(a, b = let a = a in a) => a;", -1, 0, 3, -1, -1, 0, -1, -1, -1)
	wantUnfit(t, "def f(a = a) = 1;", 9, 0)
	wantUnfit(t, "emit fn(a = a) => 1;", 9, 0)
	wantUnfit(t, "def f(a = b, b = 1) = 1;", 9, 0)
	wantUnfit(t, "emit fn(a, b = c, c = 1) => 1;", 9, 1)
	wantUnfit(t, "def f(a = fn(b) => a) = 1;", 9, 1)
}

// The texts of these nodes make no name and use none.
func TestTextsThatAreNoNames(t *testing.T) {
	wantBinds(t, `emit {x: 1, "y": 2}.x;`, -1, -1, -1, -1, -1, -1, -1, -1)
	wantBinds(t, "emit len(x = 1);", -2, -1, -1, -1, -1, -1)
	wantUnfit(t, "emit [{a: 1}, a];", 9, 3)
	wantUnfit(t, "emit len(a = 1, b = a);", 9, 3)
	wantUnfit(t, "emit [{}.a, a];", 9, 2)
	wantUnfit(t, `emit ["a", a];`, 9, 1)
	wantUnfit(t, `load "a": b; emit a;`, 9, 2)
}

func TestNamesMadeTwice(t *testing.T) {
	wantUnfit(t, "let a = 1; let a = 2;", 8, 3)
	wantUnfit(t, "def a() = 1; def a() = 2;", 8, 3)
	wantUnfit(t, "let a = 1; def a(b) = 2;", 8, 4)
	wantUnfit(t, "def a(b) = 1; let a = 2;", 8, 4)
	wantUnfit(t, `load "p": a, a;`, 8, 1)
	wantUnfit(t, `load "p": a, b, a, b;`, 8, 2)
	wantUnfit(t, `load "p": a; load "q": b, a;`, 8, 3)
	wantUnfit(t, `let a = 1; load "p": b, a;`, 8, 3)
	wantUnfit(t, `def a() = 1; load "p": b, a;`, 8, 3)
	wantUnfit(t, `load "p": b, a; let a = 1;`, 8, 4)
	wantUnfit(t, `load "p": b, a; def a() = 1;`, 8, 4)
	wantUnfit(t, "let a = 1; let a = 2; let a = 3;", 8, 3)
	wantUnfit(t, "let a = 1; let b = 1; let b = 1; let a = 1;", 8, 5)
	wantUnfit(t, "let len = 1; let len = 2;", 8, 3)
	wantUnfit(t, "def f(a, a) = 1;", 8, 1)
	wantUnfit(t, "emit fn(a, a) => 1;", 8, 1)
	wantUnfit(t, "def f(a, b, c, b, a) = 1;", 8, 3)
	wantUnfit(t, "def f(a, b = 1, a = 2) = 1;", 8, 4)
	wantUnfit(t, "def f(a, a, a) = 1;", 8, 1)
	wantUnfit(t, "emit [fn(b) => 1, let x = 1 in fn(a, a) => 1];", 8, 5)
	// A name may be made anew inside, and in two functions.
	wantBinds(t, "let a = 1; def f(a) = fn(a) => let a = 1 in [1 for a in []]; def g(a) = 1;",
		-1, -1, -1, -1, -1, -1, -1, -1, -1, -1, -1, -1, -1, -1, -1)
	wantBinds(t, "def f(f, g) = 1; def g(f, g) = 1;", -1, -1, -1, -1, -1, -1, -1, -1, -1)
}

func TestNamesNotKnown(t *testing.T) {
	// Every E below any node is looked at.
	for src, at := range map[string]int{
		"emit z;": 0, "let a = z;": 0, "def f() = z;": 0, "def f(a = z) = 1;": 0, "emit fn(a = z) => 1;": 0, "emit fn() => z;": 0,
		"emit not z;": 0, "emit -z;": 0, "emit z + 1;": 0, "emit 1 + z;": 1, "emit [1, z];": 1, "emit {a: z};": 0, "emit {a: 1, b: z};": 2,
		"emit z[1];": 0, "emit 1[z];": 1, "emit z.a;": 0, "emit z();": 0, "emit len(z);": 1, "emit len(1, a = z);": 2,
		"emit if z then 1 else 2;": 0, "emit if 1 then z else 2;": 1, "emit if 1 then 2 else z;": 2,
		"emit let a = z in 1;": 0, "emit let a = 1 in z;": 1, "emit [1 for a in z];": 0, "emit [z for a in 1];": 1, "emit [2 for a in 1 if z];": 2,
	} {
		wantUnfit(t, src, 9, at)
		if fault := impl.Check(parsed(t, "let z = 1; "+src)); fault != (impl.Fault{}) {
			t.Errorf("%q with the name: %+v", src, fault)
		}
	}
	// Where the name that a node makes is not known.
	wantUnfit(t, "emit let a = a in 1;", 9, 0)
	wantUnfit(t, "emit [1 for a in a];", 9, 0)
	wantUnfit(t, "emit [1 for a in a if a];", 9, 0)
	wantUnfit(t, "emit [let a = 1 in a, a];", 9, 3)
	wantUnfit(t, "emit [a, let a = 1 in a];", 9, 0)
	wantUnfit(t, "emit [[a for a in []], a];", 9, 3)
	wantUnfit(t, "emit (fn(a) => a)(a);", 9, 3)
	wantUnfit(t, "def f(a) = a; emit a;", 9, 3)
	wantUnfit(t, "emit let a = let b = 1 in b in b;", 9, 3)
	wantUnfit(t, "let f = fn(a) => a; def g() = a;", 9, 4)
}

func TestParametersWithoutDefault(t *testing.T) {
	wantUnfit(t, "def f(a = 1, b) = 1;", 10, 2)
	wantUnfit(t, "emit fn(a = 1, b) => 1;", 10, 2)
	wantUnfit(t, "def f(a, b = 1, c = 2, d, e = 3, g) = 1;", 10, 5)
	wantUnfit(t, "emit fn(a, b = fn(c = 1, d) => 1) => 1;", 10, 3)
	wantBinds(t, "def f(a = 1) = 1; def g(a) = 1;", -1, -1, -1, -1, -1, -1, -1, -1)
	wantBinds(t, "emit fn(a = fn(b) => 1) => 1;", -1, -1, -1, -1, -1, -1, -1, -1)
	wantBinds(t, "emit fn(a = 1, b = fn(c) => 1) => 1;", -1, -1, -1, -1, -1, -1, -1, -1, -1, -1)
}

// Of one node the least Code counts, of several the first node, whatever its Code.
func TestWhichFaultCounts(t *testing.T) {
	wantUnfit(t, "def f(a = 1, a) = 1;", 8, 2)
	wantUnfit(t, "emit fn(a, b = 1, a) => 1;", 8, 3)
	wantUnfit(t, "def f(a = 1, b, b) = 1;", 10, 2)
	wantUnfit(t, "def f(a, a, b = 1, c) = 1;", 8, 1)
	wantUnfit(t, "def f(a, a = z) = 1;", 9, 1)
	wantUnfit(t, "def f(a = z, b) = z;", 9, 0)
	wantUnfit(t, "def f(a = 1, b) = z;", 10, 2)
	wantUnfit(t, "let a = 1; let a = z;", 9, 2)
	wantUnfit(t, "let a = 1; let a = 2; emit z;", 8, 3)
	wantUnfit(t, "let a = 1; def a(b, b) = 1;", 8, 3)
	wantUnfit(t, "let a = 1; def a(b = 1, c) = 1;", 10, 4)
	wantUnfit(t, `emit z; load "p": a, a;`, 9, 0)
	wantUnfit(t, `load "p": a, a; emit z;`, 8, 1)
	wantUnfit(t, "let b = let a = y in z;", 9, 0)
	// E2 is written ahead of E1, and stands behind it among the nodes.
	wantUnfit(t, "emit [z for a in [1, y]];", 9, 1)
	wantUnfit(t, "emit [fn(c, c) => 1 for a in y];", 9, 0)
}

func TestNotValidFitsNot(t *testing.T) {
	a := texted(impl.NodeSet, "a", number(1))
	for what, tree := range map[string]impl.Tree{
		"nothing":             {},
		"no file":             {Nodes: a.nodes(nil)},
		"a kind there is not": fileOf(kind(99)),
		"too few kids":        {Nodes: []impl.Node{{Kind: impl.NodeEmit, Kids: 1}, {Kind: impl.NodeFile, Kids: 1}}},
		"a word as name":      file(a, texted(impl.NodeSet, "if", number(1))),
		"twice, and a word":   file(a, a, texted(impl.NodeSet, "if", name("zz"))),
		"an E as a statement": file(name("zz")),
		"one field twice":     fileOf(kind(impl.NodeRecord, texted(impl.NodeField, "a", name("zz")), texted(impl.NodeField, "a", number(1)))),
		"too many args":       fileOf(kind(impl.NodeCall, slices.Repeat([]plant{name("len")}, impl.MaxArgs+2)...)),
		"too deep":            fileOf(nested(impl.MaxNest - 1)),
	} {
		wantTreeUnfit(t, what, tree, 11, 0)
	}
	many := impl.Tree{Nodes: make([]impl.Node, impl.MaxNodes+1)}
	if got := impl.Check(many); got != (impl.Fault{Code: 11}) {
		t.Errorf("too many nodes: %+v", got)
	}
}

// nested is a name below so many nodes, each of which hides the one outside.
func nested(deep int) plant {
	e := name("x")
	for range deep {
		e = texted(impl.NodeLet, "x", number(1), e)
	}
	return e
}

// Trees at their limits fit like all others.
func TestNamesAtTheLimits(t *testing.T) {
	deepest := impl.MaxNest - 2
	tree := fileOf(nested(deepest))
	binds := impl.Binds(tree)
	if len(binds) != len(tree.Nodes) || binds[deepest] != deepest+1 {
		t.Errorf("%v", binds)
	}
	if locals := impl.Locals(tree); len(locals) != deepest || locals[0] != deepest+1 {
		t.Errorf("%v", locals)
	}
	var statements []plant
	for len(statements) < impl.MaxList {
		made := numberedName(len(statements))
		uses := slices.Repeat([]plant{name(numberedName(impl.MaxList - 1))}, 22)
		statements = append(statements, texted(impl.NodeSet, made, kind(impl.NodeList, uses...)))
	}
	full := file(statements...)
	binds = impl.Binds(full)
	if fault := impl.Check(full); fault != (impl.Fault{}) || len(binds) != len(full.Nodes) || binds[0] != len(full.Nodes)-2 {
		t.Errorf("%d nodes: %+v, %d binds", len(full.Nodes), fault, len(binds))
	}
	loads := make([]plant, impl.MaxList)
	for i := range loads {
		loads[i] = name(numberedName(i))
	}
	wantTreeFits(t, file(texted(impl.NodeLoad, "p", loads...), kind(impl.NodeEmit, name(numberedName(199)))))
}

func numberedName(n int) string {
	return "n" + string(rune('a'+n/20)) + string(rune('a'+n%20))
}

func wantTreeFits(t *testing.T, tree impl.Tree) {
	t.Helper()
	if fault := impl.Check(tree); fault != (impl.Fault{}) || len(impl.Binds(tree)) != len(tree.Nodes) {
		t.Errorf("%d nodes: %+v", len(tree.Nodes), fault)
	}
}

func TestNamesAnswersAreNew(t *testing.T) {
	const src = "let a = let b = 1 in [b for c in [c2, b]]; let c2 = a;"
	want := parsed(t, src)
	room := append(slices.Clone(want.Nodes), impl.Node{Kind: 98}, impl.Node{Kind: 97})
	before := slices.Clone(room)
	tree := impl.Tree{Nodes: room[:len(want.Nodes)]}
	for range 2 {
		binds, locals := impl.Binds(tree), impl.Locals(tree)
		renamed, code := impl.Rename(tree, 6, "new")
		if len(binds) != len(want.Nodes) || !slices.Equal(locals, []int{5, 6}) || code != 0 || impl.Check(tree) != (impl.Fault{}) {
			t.Errorf("%v, %v, %d", binds, locals, code)
		}
		for _, list := range [][]int{binds, locals} {
			list = list[:cap(list)]
			for i := range list {
				list[i] = 77
			}
		}
		spare := renamed.Nodes[:cap(renamed.Nodes)]
		for i := range spare {
			spare[i] = impl.Node{Kind: 99, Text: "changed"}
		}
		if !slices.Equal(room, before) {
			t.Fatalf("changed: %+v", room)
		}
	}
}
