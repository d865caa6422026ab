package tests

import (
	"slices"
	"strings"
	"testing"

	"loop.example/kilnclay/impl"
)

// plant is a node with its kids at hand, to write trees down in tests.
type plant struct {
	node impl.Node
	kids []plant
}

func kind(k int, kids ...plant) plant {
	return plant{impl.Node{Kind: k, Kids: len(kids)}, kids}
}

func texted(k int, text string, kids ...plant) plant {
	return plant{impl.Node{Kind: k, Text: text, Kids: len(kids)}, kids}
}

func name(text string) plant { return texted(impl.NodeName, text) }
func text(t string) plant    { return texted(impl.NodeText, t) }

func number(n int64) plant {
	return plant{node: impl.Node{Kind: impl.NodeInt, N: n}}
}

func boolean(n int64) plant {
	return plant{node: impl.Node{Kind: impl.NodeBool, N: n}}
}

func unary(op int, kid plant) plant {
	return plant{impl.Node{Kind: impl.NodeUn, Op: op, Kids: 1}, []plant{kid}}
}

func binary(op int, first, second plant) plant {
	return plant{impl.Node{Kind: impl.NodeBin, Op: op, Kids: 2}, []plant{first, second}}
}

func file(statements ...plant) impl.Tree {
	return impl.Tree{Nodes: kind(impl.NodeFile, statements...).nodes(nil)}
}

// fileOf is a file that emits an E.
func fileOf(e plant) impl.Tree {
	return file(kind(impl.NodeEmit, e))
}

func (p plant) nodes(before []impl.Node) []impl.Node {
	for _, kid := range p.kids {
		before = kid.nodes(before)
	}
	return append(before, p.node)
}

func wantTree(t *testing.T, src string, want impl.Tree) {
	t.Helper()
	got, fault := impl.Parse(src)
	if fault != (impl.Fault{}) || !slices.Equal(got.Nodes, want.Nodes) {
		t.Errorf("Parse(%.90q): got %+v, %+v; want %+v", src, got, fault, want)
	}
}

func wantParseFault(t *testing.T, src string, code, at int) {
	t.Helper()
	got, fault := impl.Parse(src)
	if fault != (impl.Fault{Code: code, At: at}) || got.Nodes != nil {
		t.Errorf("Parse(%.90q): got %d nodes, %+v; want none and code %d at %d", src, len(got.Nodes), fault, code, at)
	}
}

// wantPrinted also asks promise 2 of the tree and of the text.
func wantPrinted(t *testing.T, tree impl.Tree, want string) {
	t.Helper()
	if got := impl.Print(tree); !impl.ValidTree(tree) || got != want {
		t.Errorf("Print: got %.200q, want %.200q", got, want)
	}
	wantTree(t, want, tree)
}

func wantNotValid(t *testing.T, what string, tree impl.Tree) {
	t.Helper()
	if printed := impl.Print(tree); impl.ValidTree(tree) || printed != "" {
		t.Errorf("%s: valid, or printed as %.90q", what, printed)
	}
	wantNotFolded(t, what, tree)
}

func TestTreeConstants(t *testing.T) {
	limits := [4]int{impl.MaxNodes, impl.MaxNest, impl.MaxArgs, impl.MaxList}
	if limits != [4]int{5000, 50, 8, 200} {
		t.Errorf("limits: %v", limits)
	}
	kinds := []int{
		impl.NodeNone, impl.NodeBool, impl.NodeInt, impl.NodeText, impl.NodeName, impl.NodeUn, impl.NodeBin, impl.NodeList,
		impl.NodeRecord, impl.NodeIndex, impl.NodeDot, impl.NodeCall, impl.NodeIf, impl.NodeLet, impl.NodeFn, impl.NodeEach,
		impl.NodeField, impl.NodeNamed, impl.NodeParam, impl.NodeDef, impl.NodeSet, impl.NodeEmit, impl.NodeLoad, impl.NodeFile,
	}
	ops := []int{
		impl.OpOr, impl.OpAnd, impl.OpSame, impl.OpOther, impl.OpLess, impl.OpMost, impl.OpMore, impl.OpLeast,
		impl.OpHas, impl.OpAdd, impl.OpSub, impl.OpMul, impl.OpDiv, impl.OpRem,
	}
	for _, row := range [][]int{kinds, ops, {impl.OpNot, impl.OpNeg}} {
		for at, number := range row {
			if number != at+1 {
				t.Errorf("%v: %d stands at %d", row, number, at)
			}
		}
	}
}

// eachForm has each form of an E, written as the document writes it.
func eachForm() map[string]plant {
	a, b, c, x := name("a"), name("b"), name("c"), name("x")
	return map[string]plant{
		"none":                kind(impl.NodeNone),
		"false":               boolean(0),
		"true":                boolean(1),
		"0":                   number(0),
		"9223372036854775807": number(9223372036854775807),
		`""`:                  text(""),
		`"a b\22\5c\0a\ff~"`:  text("a b\"\\\n\xff~"),
		"a":                   a,
		"not a":               unary(impl.OpNot, a),
		"-a":                  unary(impl.OpNeg, a),
		"a or b":              binary(impl.OpOr, a, b),
		"a and b":             binary(impl.OpAnd, a, b),
		"a == b":              binary(impl.OpSame, a, b),
		"a != b":              binary(impl.OpOther, a, b),
		"a < b":               binary(impl.OpLess, a, b),
		"a <= b":              binary(impl.OpMost, a, b),
		"a > b":               binary(impl.OpMore, a, b),
		"a >= b":              binary(impl.OpLeast, a, b),
		"a has b":             binary(impl.OpHas, a, b),
		"a + b":               binary(impl.OpAdd, a, b),
		"a - b":               binary(impl.OpSub, a, b),
		"a * b":               binary(impl.OpMul, a, b),
		"a / b":               binary(impl.OpDiv, a, b),
		"a % b":               binary(impl.OpRem, a, b),
		"[]":                  kind(impl.NodeList),
		"[a]":                 kind(impl.NodeList, a),
		"[a, b, a]":           kind(impl.NodeList, a, b, a),
		"{}":                  kind(impl.NodeRecord),
		`{a: b, "b c": a}`:    kind(impl.NodeRecord, texted(impl.NodeField, "a", b), texted(impl.NodeField, "b c", a)),
		"a[b]":                kind(impl.NodeIndex, a, b),
		"a.b":                 texted(impl.NodeDot, "b", a),
		"a()":                 kind(impl.NodeCall, a),
		"a(b, c)":             kind(impl.NodeCall, a, b, c),
		"a(b = c)":            kind(impl.NodeCall, a, texted(impl.NodeNamed, "b", c)),
		"a(b, a = c, b = a)":  kind(impl.NodeCall, a, b, texted(impl.NodeNamed, "a", c), texted(impl.NodeNamed, "b", a)),
		"if a then b else c":  kind(impl.NodeIf, a, b, c),
		"let x = a in x":      texted(impl.NodeLet, "x", a, x),
		"fn() => a":           kind(impl.NodeFn, a),
		"fn(x) => x":          kind(impl.NodeFn, texted(impl.NodeParam, "x"), x),
		"fn(x, b = a, c) => x": kind(impl.NodeFn,
			texted(impl.NodeParam, "x"), texted(impl.NodeParam, "b", a), texted(impl.NodeParam, "c"), x),
		"[x for x in a]":      texted(impl.NodeEach, "x", a, x),
		"[x for x in a if b]": texted(impl.NodeEach, "x", a, x, b),
	}
}

func TestEachFormReadAndPrinted(t *testing.T) {
	for form, e := range eachForm() {
		wantPrinted(t, fileOf(e), "emit "+form+";\n")
		wantPrinted(t, file(texted(impl.NodeSet, "v", e)), "let v = "+form+";\n")
		wantPrinted(t, file(texted(impl.NodeDef, "f", e)), "def f() = "+form+";\n")
		wantTree(t, "emit(("+form+"))#(\n;", fileOf(e))
		wantTree(t, " \nemit "+form+" ; # ;", fileOf(e))
	}
}

func TestEachStatement(t *testing.T) {
	one, p, q := number(1), texted(impl.NodeParam, "p"), texted(impl.NodeParam, "q", number(2))
	wantTree(t, "", file())
	wantTree(t, "\n # nothing", file())
	wantPrinted(t, file(texted(impl.NodeDef, "f", p, q, one)), "def f(p, q = 2) = 1;\n")
	wantPrinted(t, file(texted(impl.NodeLoad, "lib", name("a"))), "load \"lib\": a;\n")
	wantPrinted(t, file(texted(impl.NodeLoad, "lib/x-1.y_", name("a"), name("b"), name("a"))), "load \"lib/x-1.y_\": a, b, a;\n")
	all := file(texted(impl.NodeLoad, "p", name("a")), texted(impl.NodeSet, "b", one), kind(impl.NodeEmit, one),
		texted(impl.NodeSet, "b", one), texted(impl.NodeDef, "f", one), texted(impl.NodeLoad, "p", name("a")))
	wantPrinted(t, all, "load \"p\": a;\nlet b = 1;\nemit 1;\nlet b = 1;\ndef f() = 1;\nload \"p\": a;\n")
	wantTree(t, "load\"p\":a;let b=1;emit 1;let b=1;def f()=1;load\"p\":a;", all)
	// Text of a load is what the text stands for.
	wantTree(t, `load "\70" : a;`, file(texted(impl.NodeLoad, "p", name("a"))))
	if printed := impl.Print(file()); !impl.ValidTree(file()) || printed != "" {
		t.Errorf("a file of nothing: %q", printed)
	}
}

func TestFieldNames(t *testing.T) {
	field := func(name string) impl.Tree {
		return fileOf(kind(impl.NodeRecord, texted(impl.NodeField, name, number(1))))
	}
	for _, name := range []string{"a", "_", "a1", "files", strings.Repeat("x", impl.MaxName)} {
		wantPrinted(t, field(name), "emit {"+name+": 1};\n")
		wantTree(t, `emit {"`+name+`": 1};`, field(name))
	}
	quoted := []string{"", " ", "A", "1", "1a", "a b", "a-b", "a.b", " a", "a ", strings.Repeat("x", impl.MaxName+1), strings.Repeat("x", impl.MaxText)}
	for _, name := range append(quoted, words()...) {
		wantPrinted(t, field(name), `emit {"`+name+`": 1};`+"\n")
	}
	wantPrinted(t, field("\x00\"\\\x7f\x1f\x80"), `emit {"\00\22\5c\7f\1f\80": 1};`+"\n")
	wantNotValid(t, "a field's text too long", field(strings.Repeat("x", impl.MaxText+1)))
}

// rankOf is the document's table of ranks, written a second time.
func rankOf(p plant) int {
	switch n := p.node; n.Kind {
	case impl.NodeLet, impl.NodeIf, impl.NodeFn:
		return 0
	case impl.NodeUn:
		return map[int]int{impl.OpNot: 3, impl.OpNeg: 7}[n.Op]
	case impl.NodeBin:
		return [...]int{0, 1, 2, 4, 4, 4, 4, 4, 4, 4, 5, 5, 6, 6, 6}[n.Op]
	case impl.NodeIndex, impl.NodeDot, impl.NodeCall:
		return 8
	}
	return 9
}

// TestBracketsWhereRanksAsk puts each form of an E below each place in which not any E may stand.
func TestBracketsWhereRanksAsk(t *testing.T) {
	places := []struct {
		least         int
		before, after string
		put           func(e plant) plant
	}{
		{3, "not ", "", func(e plant) plant { return unary(impl.OpNot, e) }},
		{7, "-", "", func(e plant) plant { return unary(impl.OpNeg, e) }},
		{8, "", "[z]", func(e plant) plant { return kind(impl.NodeIndex, e, name("z")) }},
		{8, "", ".z", func(e plant) plant { return texted(impl.NodeDot, "z", e) }},
		{8, "", "(z)", func(e plant) plant { return kind(impl.NodeCall, e, name("z")) }},
		{0, "z[", "]", func(e plant) plant { return kind(impl.NodeIndex, name("z"), e) }},
		{0, "z(", ")", func(e plant) plant { return kind(impl.NodeCall, name("z"), e) }},
		{0, "z(z = ", ", y = 1)", func(e plant) plant {
			return kind(impl.NodeCall, name("z"), texted(impl.NodeNamed, "z", e), texted(impl.NodeNamed, "y", number(1)))
		}},
		{0, "[z, ", ", z]", func(e plant) plant { return kind(impl.NodeList, name("z"), e, name("z")) }},
		{0, "{z: ", ", y: 1}", func(e plant) plant {
			return kind(impl.NodeRecord, texted(impl.NodeField, "z", e), texted(impl.NodeField, "y", number(1)))
		}},
		{0, "if ", " then z else z", func(e plant) plant { return kind(impl.NodeIf, e, name("z"), name("z")) }},
		{0, "if z then ", " else z", func(e plant) plant { return kind(impl.NodeIf, name("z"), e, name("z")) }},
		{0, "if z then z else ", "", func(e plant) plant { return kind(impl.NodeIf, name("z"), name("z"), e) }},
		{0, "let z = ", " in z", func(e plant) plant { return texted(impl.NodeLet, "z", e, name("z")) }},
		{0, "let z = z in ", "", func(e plant) plant { return texted(impl.NodeLet, "z", name("z"), e) }},
		{0, "fn(z = ", ", y) => z", func(e plant) plant {
			return kind(impl.NodeFn, texted(impl.NodeParam, "z", e), texted(impl.NodeParam, "y"), name("z"))
		}},
		{0, "fn() => ", "", func(e plant) plant { return kind(impl.NodeFn, e) }},
		{0, "[", " for z in z]", func(e plant) plant { return texted(impl.NodeEach, "z", name("z"), e) }},
		{0, "[z for z in ", "]", func(e plant) plant { return texted(impl.NodeEach, "z", e, name("z")) }},
		{0, "[z for z in ", " if z]", func(e plant) plant { return texted(impl.NodeEach, "z", e, name("z"), name("z")) }},
		{0, "[z for z in z if ", "]", func(e plant) plant { return texted(impl.NodeEach, "z", name("z"), name("z"), e) }},
	}
	signs := strings.Fields("or and == != < <= > >= has + - * / %")
	for form, e := range eachForm() {
		for _, place := range places {
			inside := form
			if rankOf(e) < place.least {
				inside = "(" + form + ")"
			}
			wantPrinted(t, fileOf(place.put(e)), "emit "+place.before+inside+place.after+";\n")
		}
		for i, sign := range signs {
			first, second := form, form
			rank := rankOf(binary(i+1, e, e))
			if rankOf(e) < rank || rank == 4 && rankOf(e) == 4 {
				first = "(" + form + ")"
			}
			if rankOf(e) <= rank {
				second = "(" + form + ")"
			}
			wantPrinted(t, fileOf(binary(i+1, e, e)), "emit "+first+" "+sign+" "+second+";\n")
		}
	}
}

// Without brackets a chain of ops goes by rank, and within one from the left.
func TestChainsOfOps(t *testing.T) {
	a, b, c := name("a"), name("b"), name("c")
	signs := strings.Fields("or and == != < <= > >= has + - * / %")
	for i, first := range signs {
		for j, second := range signs {
			src := "emit a " + first + " b " + second + " c;"
			one, two := rankOf(binary(i+1, a, b)), rankOf(binary(j+1, a, b))
			switch {
			case one == 4 && two == 4:
				wantParseFault(t, src, 6, len("emit a  b ")+len(first))
			case one >= two:
				wantTree(t, src, fileOf(binary(j+1, binary(i+1, a, b), c)))
			default:
				wantTree(t, src, fileOf(binary(i+1, a, binary(j+1, b, c))))
			}
		}
	}
	all := "emit a or b and not c == -a + b * c(a).b[c] % a - b < c;"
	wantParseFault(t, all, 6, strings.Index(all, "<"))
	wantTree(t, strings.Replace(all, " < c", "", 1), fileOf(
		binary(impl.OpOr, a, binary(impl.OpAnd, b, unary(impl.OpNot, binary(impl.OpSame, c,
			binary(impl.OpSub, binary(impl.OpAdd, unary(impl.OpNeg, a), binary(impl.OpRem,
				binary(impl.OpMul, b, kind(impl.NodeIndex, texted(impl.NodeDot, "b", kind(impl.NodeCall, c, a)), c)), a)), b)))))))
}

func TestLastGoesAsFarAsItCan(t *testing.T) {
	a, b, c := name("a"), name("b"), name("c")
	sum := binary(impl.OpOr, a, binary(impl.OpSame, b, kind(impl.NodeCall, c, a)))
	wantTree(t, "emit if a then b else a or b == c(a);", fileOf(kind(impl.NodeIf, a, b, sum)))
	wantTree(t, "emit let a = b in a or b == c(a);", fileOf(texted(impl.NodeLet, "a", b, sum)))
	wantTree(t, "emit fn() => a or b == c(a);", fileOf(kind(impl.NodeFn, sum)))
	wantTree(t, "emit fn() => let a = b in if a then b else a or b == c(a);",
		fileOf(kind(impl.NodeFn, texted(impl.NodeLet, "a", b, kind(impl.NodeIf, a, b, sum)))))
	wantTree(t, "emit if if a then b else c then if a then b else c else if a then b else c;",
		fileOf(kind(impl.NodeIf, kind(impl.NodeIf, a, b, c), kind(impl.NodeIf, a, b, c), kind(impl.NodeIf, a, b, c))))
	wantTree(t, "emit let a = let b = c in b in a;", fileOf(texted(impl.NodeLet, "a", texted(impl.NodeLet, "b", c, b), a)))
	wantTree(t, "emit [a for b in if a then b else c if a];",
		fileOf(texted(impl.NodeEach, "b", kind(impl.NodeIf, a, b, c), a, a)))
	wantTree(t, "emit a(b == c, (a), b = a);",
		fileOf(kind(impl.NodeCall, a, binary(impl.OpSame, b, c), a, texted(impl.NodeNamed, "b", a))))
	wantTree(t, "emit - - -a * - b;", fileOf(binary(impl.OpMul,
		unary(impl.OpNeg, unary(impl.OpNeg, unary(impl.OpNeg, a))), unary(impl.OpNeg, b))))
	wantTree(t, "emit not not a and not b;", fileOf(binary(impl.OpAnd,
		unary(impl.OpNot, unary(impl.OpNot, a)), unary(impl.OpNot, b))))
	wantTree(t, "emit 1.a(2)[3](4);", fileOf(kind(impl.NodeCall,
		kind(impl.NodeIndex, kind(impl.NodeCall, texted(impl.NodeDot, "a", number(1)), number(2)), number(3)), number(4))))
}

func TestParseFaultsOfScan(t *testing.T) {
	wantParseFault(t, strings.Repeat(" ", impl.MaxSrc+1), 1, 0)
	wantParseFault(t, "emit 1 @;", 2, 7)
	wantParseFault(t, "emit 01;", 3, 5)
	wantParseFault(t, "emit \"a;", 4, 5)
	wantParseFault(t, "emit "+strings.Repeat("x", impl.MaxName+1)+";", 5, 5)
	wantParseFault(t, `emit "`+strings.Repeat("x", impl.MaxText+1)+`";`, 5, 5)
	// It comes ahead of the other codes, wherever it stands.
	wantParseFault(t, "; emit {a: 1, a: 2}; @", 2, 21)
	wantParseFault(t, strings.Repeat(" ", impl.MaxSrc)+"@", 1, 0)
}

// TestParseNotWritten: | stands in front of the token at which no tree can go on.
func TestParseNotWritten(t *testing.T) {
	for _, marked := range []string{
		"|x;", "|;", "|1", "|in", `|"load"`, "|fn(a) => 1;", "|if a then b else c;", "emit 1;|;", "emit 1;|emit_ 1;",
		"emit|;", "emit a|", "emit|", "emit a |b;", "emit 1 |1;", `emit "a" |"b";`, "emit a |{};", "emit a |not b;",
		"let|", "let |1 = 2;", "let |if = 1;", "let a |== 1;", "let a |: 1;", "let a = |;", "let a = 1 |in 2;", "let a = 1; let a = 1|", "let _1 |_2 = 1;",
		"def|", "def f |= 1;", "def |(a) = 1;", "def f(|1) = 1;", "def f(a|;", "def f(a, |) = 1;", "def f(|,) = 1;", "def f(a |b) = 1;", "def f(a = |) = 1;",
		"def f() |=> 1;", "def f() |1;", "def f(a|.b) = 1;", "def f(a)|", "def f() = 1|",
		"load |p: a;", "load|;", `load "p" |a;`, `load "p": |;`, `load "p"|;`, `load "p": a |b;`, `load "p": a, |;`, `load "p": |1;`, `load "p": |"a";`, `load "p": a |= 1;`, `load "p": |if;`, `load "p": a|`,
		"emit (|);", "emit (1|;", "emit (1 |2);", "emit (1|, 2);", "emit ((a)|", "emit |);",
		"emit [|;", "emit [|,];", "emit [1 |2];", "emit [1, |];", "emit [1|;", "emit [a, b |for c in d];", "emit [a for |1 in b];", "emit [a for b |c];", "emit [a for b in |];",
		"emit [a for b in c |, d];", "emit [a for b in c |for d in e];", "emit [a for b in c if d |if e];", "emit [a for b in c if |];", "emit [a |if b];", "emit [|for a in b];", "emit [a for |for in b];", "emit [a|",
		"emit {|1: 2};", "emit {|(a): 1};", "emit {a |= 1};", "emit {a|};", "emit {a: |};", "emit {a: 1 |b: 2};", "emit {a: 1, |};", "emit {|if: 1};", "emit {|,};", "emit {a: 1|;", `emit {"a" |"b"};`, "emit {a|.b: 1};",
		"emit a[|];", "emit a[1|;", "emit a[1|, 2];", "emit a.|1;", "emit a.|if;", `emit a.|"b";`, "emit a.|;", "emit a.|(b);", "emit |.a;", "emit a.b|",
		"emit f(|;", "emit f(1|;", "emit f(1, |);", "emit f(|, 1);", "emit f(a = |);", "emit f(a = 1, |);", "emit f(a = 1, b|);", "emit f(a = 1, b|, c = 2);", "emit f(a = 1, b |== 2);", "emit f(a = 1, |2);", "emit f(a = 1, |(b) = 2);",
		"emit f(a + b |= 1);", "emit f((a) |= 1);", "emit f(1 |= 1);", "emit f(a.b |= 1);", "emit f(a |: 1);", "emit f(if |= 1);", "emit f(|then = 1);", "emit f(a = b |= c);", "emit f(a|", "emit f(a =|", "emit f(a = 1, b|", "emit f(a |=> 1);",
		"emit a < b |< c;", "emit a == b |!= c;", "emit a has b |has c;", "emit not a < b |< c;", "emit a < b + c |>= d;", "emit (a < b |< c);", "emit a and b < c |< d;", "emit let a = 1 in a < b |< c;",
		"emit a == |not b;", "emit a + |not b;", "emit -|not b;", "emit a < |if b then c else d;", "emit 1 + |let a = 1 in a;", "emit not |let a = 1 in a;", "emit -|fn() => 1;", "emit a or |fn() => 1;", "emit a and |if b then c else d;",
		"emit a + |;", "emit a + |* b;", "emit |* a;", "emit |+ a;", "emit |== a;", "emit a |= b;", "emit a |=> b;", "emit not|;", "emit -|;", "emit a or|", "emit a and|", "emit a and |or b;", "emit |has a;",
		"emit if |then b else c;", "emit if a |b;", "emit if a |else b;", "emit if a then b|;", "emit if a then b else|;", "emit if a then |else c;", "emit if a then b |then c;", "emit a |if b then c else d;",
		"emit let |1 = 2 in 3;", "emit let a |in 3;", "emit let a = 1|;", "emit let a = 1 |else 2;", "emit let a = 1 in|;", "emit let a = |in 1;",
		"emit fn |a => 1;", "emit fn(|1) => 2;", "emit fn(a) |= 1;", "emit fn(a) => |;", "emit fn(a,|) => 1;", "emit fn(a |b) => 1;", "emit fn() |1;", "emit fn|", "emit fn(a|: 1) => 1;", "emit (fn() => 1)(2)|",
		"emit |then;", "emit |emit 1;", "emit |def;", "emit |load;", "emit a |for;", "emit 1; |fn() => 1;",
	} {
		at := strings.Index(marked, "|")
		wantParseFault(t, marked[:at]+marked[at+1:], 6, at)
	}
	// Where the tokens end, the place is the size of the text, gaps and all.
	for _, gap := range []string{" ", "\n\n", " # a note", "#"} {
		wantParseFault(t, "emit 1"+gap, 6, len("emit 1"+gap))
	}
	wantParseFault(t, "emit "+strings.Repeat("(", impl.MaxSrc-5), 6, impl.MaxSrc)
	wantParseFault(t, "emit "+strings.Repeat("[", impl.MaxSrc-6)+";", 6, impl.MaxSrc-1)
	// Code 6 comes ahead of code 7.
	wantParseFault(t, "emit {a: 1, a: 2} emit 1;", 6, 18)
}
