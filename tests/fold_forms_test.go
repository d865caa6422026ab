package tests

import (
	"math/rand/v2"
	"slices"
	"strings"
	"testing"

	"loop.example/kilnclay/impl"
)

// secondFold is chapter 8 read a second time: as long as there is a node for which there is a rule, the first of them (so that all below it are done) is put in order, and all is looked at from the beginning.
func secondFold(tree impl.Tree) impl.Tree {
	nodes := slices.Clone(tree.Nodes)
again:
	n := nestOf(impl.Tree{Nodes: nodes})
	for at := range nodes {
		if piece, ok := n.simpler(at); ok {
			nodes = slices.Concat(n.ahead(at), piece, nodes[at+1:])
			// The number of a node's kids stays.
			goto again
		}
	}
	return impl.Tree{Nodes: nodes}
}

// first is the place of the first node below a node, or its own.
func (n nest) first(at int) int {
	for len(n.kids[at]) > 0 {
		at = n.kids[at][0]
	}
	return at
}

func (n nest) ahead(at int) []impl.Node {
	return n.nodes[:n.first(at)]
}

// piece is all nodes of a kid.
func (n nest) piece(at, turn int) []impl.Node {
	kid := n.kids[at][turn]
	return n.nodes[n.first(kid) : kid+1]
}

// simpler is what the rules put in the place of a node.
func (n nest) simpler(at int) ([]impl.Node, bool) {
	node := n.nodes[at]
	var first, second any
	var is, both bool
	if len(n.kids[at]) > 0 {
		first, is = constantAt(n.nodes[n.kids[at][0]])
	}
	if len(n.kids[at]) > 1 {
		second, both = constantAt(n.nodes[n.kids[at][1]])
	}
	if !is {
		return nil, false
	}
	switch {
	case node.Kind == impl.NodeUn:
		return asConstant(secondUn(node.Op, first))
	case node.Kind == impl.NodeBin && (node.Op == impl.OpOr && first == true || node.Op == impl.OpAnd && first == false):
		return n.piece(at, 0), true
	case node.Kind == impl.NodeBin && both:
		return asConstant(secondOp(node.Op, first, second))
	case node.Kind == impl.NodeIf && first == true:
		return n.piece(at, 1), true
	case node.Kind == impl.NodeIf && first == false:
		return n.piece(at, 2), true
	case node.Kind == impl.NodeLet:
		piece := slices.Clone(n.piece(at, 1))
		for i := range piece {
			if n.bind(at-len(piece)+i) == at {
				piece[i] = n.nodes[n.kids[at][0]]
			}
		}
		return piece, true
	}
	return nil, false
}

func constantAt(node impl.Node) (any, bool) {
	switch node.Kind {
	case impl.NodeNone:
		return nil, true
	case impl.NodeBool:
		return node.N == 1, true
	case impl.NodeInt:
		return int(node.N), true
	case impl.NodeText:
		return node.Text, true
	}
	return nil, false
}

func asConstant(x any, word string) ([]impl.Node, bool) {
	switch x := x.(type) {
	case bool:
		return boolean(map[bool]int64{true: 1}[x]).nodes(nil), true
	case int:
		return number(int64(x)).nodes(nil), x >= 0
	case string:
		return text(x).nodes(nil), true
	}
	return nil, x == nil && word == ""
}

// checkFold holds Fold against the second reading, and asks for a tree that fits, has no more nodes and is folded to itself.
func checkFold(t *testing.T, tree impl.Tree) impl.Tree {
	t.Helper()
	before := slices.Clone(tree.Nodes)
	got := impl.Fold(tree)
	if want := secondFold(tree); !slices.Equal(got.Nodes, want.Nodes) {
		t.Fatalf("Fold(%q)\ngot  %s\nwant %s", impl.Print(tree), impl.Print(got), impl.Print(want))
	}
	if !impl.ValidTree(got) || impl.Check(got) != (impl.Fault{}) || len(got.Nodes) > len(tree.Nodes) {
		t.Fatalf("Fold(%q): %+v", impl.Print(tree), got)
	}
	if again := impl.Fold(got); !slices.Equal(again.Nodes, got.Nodes) {
		t.Fatalf("Fold(%q)\n%s\nagain %s", impl.Print(tree), impl.Print(got), impl.Print(again))
	}
	if !slices.Equal(tree.Nodes, before) {
		t.Fatalf("changed: %q", impl.Print(tree))
	}
	return got
}

// foldings are the E with which everyFold fills a form: each kind of constant, and others of which some are folded to one.
func foldings() []string {
	return []string{
		"none", "false", "true", "0", "1", "2", "9223372036854775807", `""`, `"a"`, "x", "g", "len", "f(1)", "-1", "-0", "1 / 0",
		"[1]", "{a: 1}", "(not false)", "(1 + 1)", "(if true then x else g)", "(let x = 1 in x)", "(fn(x) => x)", "[x for x in [x]]", `fail("w")`,
	}
}

func everyFold(form string, es []string, do func(e string)) {
	if !strings.Contains(form, "?") {
		do(form)
		return
	}
	for _, e := range es {
		everyFold(strings.Replace(form, "?", e, 1), es, do)
	}
}

// Each op, and each form that has a rule, of each of some E. The name x is a let's that is a constant, one that is none, and a parameter.
func TestEveryFold(t *testing.T) {
	forms := []string{"not ?", "-?", "let y = ? in y", "if ? then g else x"}
	for op := range strings.FieldsSeq("or and == != < <= > >= has + - * / %") {
		forms = append(forms, "? "+op+" ?")
	}
	folded := 0
	check := func(src string) {
		tree := parsed(t, src)
		if len(checkFold(t, tree).Nodes) < len(tree.Nodes) {
			folded++
		}
		checkFoldedRuns(t, worldOf(threeNames(), map[string]string{"m": src}), "m")
	}
	for _, around := range []string{"let x = 2 in (@)", "let x = f(2) in (@)", "(fn(x) => (@))(true)"} {
		for _, form := range forms {
			everyFold(form, foldings(), func(e string) {
				check("def f(a = 1) = a; let g = true; emit {v: " + strings.Replace(around, "@", e, 1) + "};")
			})
		}
	}
	few := []string{"none", "true", "false", "1", `"a"`, "x", "g", "f(x)", "-x", "(x + 1)"}
	for _, form := range []string{
		"if ? then ? else ?", "let x = ? in if ? then ? else x", "let x = ? in let y = ? in [x, y, ?]", "let x = ? in let x = ? in ?", "let x = let x = ? in ? in ?",
		"let x = ? in [x == ? for x in [?]]", "let y = ? in (fn(x = ?, y = ?) => [x, y])()", "? or ? and ?", "(? and ?) or ?", "? + (? + ?)", "let y = ? in y(?)", "let y = ? in ?[y]",
	} {
		everyFold("let x = 1 in "+form, few, func(e string) {
			check("def f(a = 1) = a; let g = true; emit {v: " + e + "};")
		})
	}
	if folded < 4000 {
		t.Error(folded)
	}
}

// foldable draws an E in which constants are frequent and mostly fit, and no name that is not known.
func (d drawer) foldable(sort, deep int, known []knownName) plant {
	if d.IntN(25) == 0 {
		sort = d.IntN(aList)
	}
	if deep == 0 || d.IntN(10) == 0 {
		return d.small(sort, known)
	}
	deep--
	bound := d.IntN(aList)
	made := knownName{[]string{"x", "y", "z", "len"}[d.IntN(4)], bound}
	inner := func(sort int) plant { return d.foldable(sort, deep, known) }
	inside := func() plant { return d.foldable(sort, deep, append(slices.Clone(known), made)) }
	switch d.IntN(20) {
	case 0, 1, 2:
		return kind(impl.NodeIf, inner(aBool), inner(sort), inner(sort))
	case 3, 4, 5, 6, 7, 8:
		return texted(impl.NodeLet, made.name, inner(bound), inside())
	case 9:
		listed := kind(impl.NodeList, inner(bound), inner(bound))
		each := texted(impl.NodeEach, made.name, []plant{listed, inside(), d.foldable(aBool, deep, append(slices.Clone(known), made))}[:2+d.IntN(2)]...)
		return kind(impl.NodeIndex, each, number(0))
	case 10:
		params := []plant{texted(impl.NodeParam, made.name, inner(bound)), texted(impl.NodeParam, "w", inside())}
		return kind(impl.NodeCall, kind(impl.NodeFn, append(params, inside())...), inner(bound), texted(impl.NodeNamed, "w", inner(sort)))
	case 11:
		return texted(impl.NodeDot, "x", kind(impl.NodeRecord, texted(impl.NodeField, "x", inner(sort)), texted(impl.NodeField, "w", inner(bound))))
	}
	return d.operation(sort, inner)
}

func (d drawer) operation(sort int, inner func(sort int) plant) plant {
	among := d.IntN(aList)
	switch {
	case sort == aNumber && d.IntN(6) == 0:
		return unary(impl.OpNeg, inner(aNumber))
	case sort == aNumber:
		return binary(impl.OpAdd+d.IntN(5), inner(aNumber), inner(aNumber))
	case sort == aText:
		return binary(impl.OpAdd, inner(aText), inner(aText))
	}
	switch d.IntN(5) {
	case 0:
		return unary(impl.OpNot, inner(aBool))
	case 1, 2:
		return binary(impl.OpOr+d.IntN(2), inner(aBool), inner(aBool))
	case 3:
		return binary(impl.OpHas, inner(aText), inner(aText))
	}
	return binary(impl.OpSame+d.IntN(6), inner(among), inner(among))
}

func (d drawer) small(sort int, known []knownName) plant {
	// Most often the innermost.
	if names := namesOf(sort, known); len(names) > 0 && d.IntN(3) > 0 {
		return name(names[max(d.IntN(len(names)), d.IntN(len(names)))])
	}
	switch {
	case d.IntN(40) == 0:
		return kind(impl.NodeNone)
	case d.IntN(40) == 0:
		return kind(impl.NodeCall, name("f"), number(1))
	case sort == aBool:
		return boolean(d.Int64N(2))
	case sort == aText:
		return text([]string{"", "a", "b"}[d.IntN(3)])
	}
	return number([]int64{0, 1, 2, 3, 7, 1<<63 - 1}[d.IntN(6)])
}

func TestFoldsOfDrawnTrees(t *testing.T) {
	draw := drawer{rand.New(rand.NewPCG(9, 1))}
	folded, told := 0, 0
	for range 3000 {
		known := []knownName{{"g", aBool}, {"x", aNumber}, {"t", aText}}[:draw.IntN(4)]
		e := func(sort int) plant { return draw.foldable(sort, 3+draw.IntN(3), known) }
		tree := file(
			texted(impl.NodeSet, "g", boolean(draw.Int64N(2))), texted(impl.NodeSet, "x", number(1)), texted(impl.NodeSet, "t", text("a")),
			texted(impl.NodeDef, "f", texted(impl.NodeParam, "z", e(aNumber)), e(aNumber)),
			kind(impl.NodeEmit, kind(impl.NodeRecord, texted(impl.NodeField, "v", e(draw.IntN(aList))))),
		)
		if len(tree.Nodes) > 300 {
			continue
		}
		if len(checkFold(t, tree).Nodes) < len(tree.Nodes)*2/3 {
			folded++
		}
		if src := impl.Print(tree); src != "" {
			w := worldOf(nil, map[string]string{"m": src})
			checkFoldedRuns(t, w, "m")
			told += len(impl.Run(w, "m").Told)
		}
	}
	if folded < 400 || told < 800 {
		t.Errorf("%d, %d", folded, told)
	}
	// Those of chapter 3, with few constants and every kind of node.
	fits := 0
	for range 6000 {
		tree := draw.renamedAtWill(file(draw.statement(), draw.statement(), draw.statement()))
		if len(tree.Nodes) > 300 {
			continue
		}
		if impl.Check(tree).Code != 0 {
			wantNotFolded(t, impl.Print(tree), tree)
			continue
		}
		checkFold(t, tree)
		fits++
	}
	if fits < 300 {
		t.Error(fits)
	}
}
