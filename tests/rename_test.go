package tests

import (
	"slices"
	"strings"
	"testing"

	"loop.example/kilnclay/impl"
)

func wantNotRenamed(t *testing.T, tree impl.Tree, at int, name string, code int) {
	t.Helper()
	if got, answer := impl.Rename(tree, at, name); answer != code || got.Nodes != nil {
		t.Errorf("Rename(%.90q, %d, %q): got %d nodes and %d, want none and %d", impl.Print(tree), at, name, len(got.Nodes), answer, code)
	}
}

// wantRenamed asks for the text in which the name stands for the old one, and for the old tree when it is renamed back.
func wantRenamed(t *testing.T, src string, at int, name, want string) {
	t.Helper()
	tree := parsed(t, src)
	renamed, code := impl.Rename(tree, at, name)
	if printed := impl.Print(renamed); code != 0 || printed != want {
		t.Errorf("Rename(%q, %d, %q): got %q and %d, want %q", src, at, name, printed, code, want)
		return
	}
	if !slices.Equal(impl.Binds(renamed), impl.Binds(tree)) {
		t.Errorf("Rename(%q, %d, %q) binds %v", src, at, name, impl.Binds(renamed))
	}
	again, code := impl.Rename(renamed, at, tree.Nodes[at].Text)
	if code != 0 || !slices.Equal(again.Nodes, tree.Nodes) {
		t.Errorf("Rename(%q, %d, %q) back: %d, %q", src, at, name, code, impl.Print(again))
	}
}

func wantLocals(t *testing.T, src string, want ...int) {
	t.Helper()
	if got := impl.Locals(parsed(t, src)); !slices.Equal(got, want) {
		t.Errorf("Locals(%q): got %v, want %v", src, got, want)
	}
}

func TestLocals(t *testing.T) {
	wantLocals(t, "")
	wantLocals(t, `load "p": a; let b = fn(c, d = 1) => {e: 1}.e; def f(g) = len(h = 1); emit a;`)
	wantLocals(t, "emit let a = 1 in a;", 2)
	wantLocals(t, "emit [a for a in []];", 2)
	wantLocals(t, "emit [a for a in [] if a];", 3)
	wantLocals(t, "emit let a = let b = 1 in 2 in let c = 3 in 4;", 2, 5, 6)
	wantLocals(t, "emit [[1 for b in []] for a in [1 for c in []] if let d = 1 in d];", 2, 5, 8, 9)
	wantLocals(t, "def f(a = let b = 1 in b) = fn(c = [1 for d in []]) => let e = 1 in e; let g = let h = 1 in h;", 2, 6, 10, 15)
}

func TestRenamed(t *testing.T) {
	wantRenamed(t, "emit let a = 1 in a + a;", 4, "z", "emit let z = 1 in z + z;\n")
	wantRenamed(t, "emit let a = 1 in 2;", 2, "z", "emit let z = 1 in 2;\n")
	wantRenamed(t, "emit [a for a in [1] if a == 1];", 6, "z", "emit [z for z in [1] if z == 1];\n")
	wantRenamed(t, "emit [1 for a in []];", 2, "z", "emit [1 for z in []];\n")
	wantRenamed(t, "emit let a = 1 in fn(b = a) => [a for c in [a] if a];", 9, "z", "emit let z = 1 in fn(b = z) => [z for c in [z] if z];\n")
	wantRenamed(t, "def f(b = let a = 1 in a) = b; emit let c = 1 in c;", 2, "z", "def f(b = let z = 1 in z) = b;\nemit let c = 1 in c;\n")
	for _, name := range []string{"_", "_9", "lenn", "file", "iff", "z" + strings.Repeat("9", impl.MaxName-1)} {
		wantRenamed(t, "emit let a = 1 in a;", 2, name, "emit let "+name+" = 1 in "+name+";\n")
	}
}

// The old name stays where another node makes it, and where it is no name that is used.
func TestRenamedBesideOthers(t *testing.T) {
	const src = "let a = {a: let a = [1] in [a for a in a if a].a}; emit len(let a = 1 in a, a = a);"
	for at, want := range map[int]string{
		5: "let a = {a: let a = [1] in [z for z in a if z].a};\nemit len(let a = 1 in a, a = a);\n",
		7: "let a = {a: let z = [1] in [a for a in z if a].a};\nemit len(let a = 1 in a, a = a);\n",
		// The one in the last statement.
		14: "let a = {a: let a = [1] in [a for a in a if a].a};\nemit len(let z = 1 in z, a = a);\n",
	} {
		tree := parsed(t, src)
		if !slices.Equal(impl.Locals(tree), []int{5, 7, 14}) {
			t.Fatalf("%v", impl.Locals(tree))
		}
		renamed, code := impl.Rename(tree, at, "z")
		if printed := impl.Print(renamed); code != 0 || printed != want || !slices.Equal(impl.Binds(renamed), impl.Binds(tree)) {
			t.Errorf("%d: %d, %q", at, code, printed)
		}
		// The old name is still the Text of others, so that there is no way back.
		wantNotRenamed(t, renamed, at, "a", 3)
	}
}

func TestRenameAtNoSuchPlace(t *testing.T) {
	const src = `load "p": a; def f(b, c = 1) = fn(d) => let e = b in [e for g in [c, d] if not g]; let h = {i: -1}.i; emit h[0](j = if true then none else "x");`
	tree := parsed(t, src)
	locals := impl.Locals(tree)
	for at := -3; at < len(tree.Nodes)+3; at++ {
		if slices.Contains(locals, at) {
			wantRenamed(t, src, at, "z", renamedText(tree, at, "z"))
			continue
		}
		for _, name := range []string{"z", "a", "len", "if", ""} {
			wantNotRenamed(t, tree, at, name, 2)
		}
	}
	for _, at := range []int{-1 << 63, -1, len(tree.Nodes), 1 << 40, 1<<63 - 1} {
		wantNotRenamed(t, tree, at, "z", 2)
	}
}

func TestRenameToNoNewName(t *testing.T) {
	tree := parsed(t, `load "pack": a; def f(b, c = 1) = fn(d) => let e = b in [e for g in [c, d] if not g]; let h = {i: -1, k_: 2}.i; emit h[0](j = "x", l = {"m n": "o p"}, q = h.r);`)
	if len(impl.Locals(tree)) != 2 {
		t.Fatalf("%v", impl.Locals(tree))
	}
	none := slices.Concat(words(), builtNames(), strings.Fields("A 9 9a a-b a.b é "+strings.Repeat("z", impl.MaxName+1)),
		[]string{"", " ", "z ", " z", "z z", "z\n", "z\x00", "\"z\"", "m n", "o p"})
	none = append(none, strings.Fields("pack a f b c d e g h i k_ j x l q r")...)
	for _, at := range impl.Locals(tree) {
		for _, name := range none {
			wantNotRenamed(t, tree, at, name, 3)
		}
		for _, node := range tree.Nodes {
			wantNotRenamed(t, tree, at, node.Text, 3)
		}
		for _, name := range []string{"z", "pac", "packs", "m", "n", "o", "p", "k"} {
			if _, code := impl.Rename(tree, at, name); code != 0 {
				t.Errorf("%q: %d", name, code)
			}
		}
	}
	// Of a text, a field, a load and a dot as well, each alone.
	for _, src := range []string{
		`emit [let a = 1 in a, "z"];`, `emit [let a = 1 in a, {z: 1}];`, `emit [let a = 1 in a, {"z": 1}];`, `emit [let a = 1 in a, {}.z];`, `emit [let a = 1 in a, len(z = 1)];`,
		`emit [let a = 1 in a, fn(z) => 1];`, `emit [let a = 1 in a, let z = 1 in 2];`, `emit [let a = 1 in a, [1 for z in []]];`,
		`emit let a = 1 in a; load "z": b;`, `emit let a = 1 in a; load "p": z;`, `emit let a = 1 in a; let z = 1;`, `emit let a = 1 in a; def z() = 1;`, `emit let a = 1 in a; def f(z) = 1;`,
	} {
		wantNotRenamed(t, parsed(t, src), 2, "z", 3)
		if _, code := impl.Rename(parsed(t, src), 2, "y"); code != 0 {
			t.Errorf("%q: %d", src, code)
		}
	}
}

// A name that hides a built one may be changed, but not be taken again.
func TestRenameOfAHiddenBuiltName(t *testing.T) {
	tree := parsed(t, "emit let len = len in len;")
	renamed, code := impl.Rename(tree, 2, "z")
	if printed := impl.Print(renamed); code != 0 || printed != "emit let z = len in z;\n" {
		t.Errorf("%d, %q", code, printed)
	}
	wantNotRenamed(t, renamed, 2, "len", 3)
}

// A tree may be too long to be printed, and be renamed.
func TestRenameBeyondSource(t *testing.T) {
	long := strings.Repeat("z", impl.MaxName)
	uses := slices.Repeat([]plant{name("a")}, impl.MaxList)
	rows := slices.Repeat([]plant{kind(impl.NodeList, uses...)}, 10)
	tree := fileOf(texted(impl.NodeLet, "a", number(1), kind(impl.NodeList, rows...)))
	at := len(tree.Nodes) - 3
	renamed, code := impl.Rename(tree, at, long)
	again, back := impl.Rename(renamed, at, "a")
	if code != 0 || back != 0 || impl.Print(renamed) != "" || !slices.Equal(again.Nodes, tree.Nodes) {
		t.Errorf("%d, %d", code, back)
	}
	wantTreeFits(t, renamed)
}
