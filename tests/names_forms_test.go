package tests

import (
	"math/rand/v2"
	"slices"
	"strings"
	"testing"

	"loop.example/kilnclay/impl"
)

// nest reads the document's chapter 3 from a name outwards: it knows of each node the one above it, and which of its kids it is.
type nest struct {
	nodes []impl.Node
	above []int
	turn  []int
	kids  [][]int
}

func nestOf(tree impl.Tree) nest {
	size := len(tree.Nodes)
	n := nest{tree.Nodes, make([]int, size), make([]int, size), make([][]int, size)}
	var open []int
	for at, node := range tree.Nodes {
		n.kids[at] = slices.Clone(open[len(open)-node.Kids:])
		open = append(open[:len(open)-node.Kids], at)
		for turn, kid := range n.kids[at] {
			n.above[kid], n.turn[kid] = at, turn
		}
	}
	n.above[size-1] = -1
	return n
}

func (n nest) underLoad(at int) bool {
	return n.above[at] >= 0 && n.nodes[n.above[at]].Kind == impl.NodeLoad
}

// madeByFile are the nodes that make a name of the file.
func (n nest) madeByFile() []int {
	var makers []int
	for at, node := range n.nodes {
		if node.Kind == impl.NodeDef || node.Kind == impl.NodeSet || n.underLoad(at) {
			makers = append(makers, at)
		}
	}
	return makers
}

// known are the nodes whose names are known at a node, the innermost first.
func (n nest) known(at int) []int {
	var makers []int
	for n.above[at] >= 0 {
		up, turn := n.above[at], n.turn[at]
		switch n.nodes[up].Kind {
		case impl.NodeLet:
			if turn == 1 {
				makers = append(makers, up)
			}
		case impl.NodeEach:
			if turn == 1 || turn == 2 {
				makers = append(makers, up)
			}
		case impl.NodeFn, impl.NodeDef:
			makers = append(makers, n.kids[up][:turn]...)
		}
		at = up
	}
	return append(makers, n.madeByFile()...)
}

// unknown is what bind tells of a name that is not known.
const unknown = -3

func (n nest) bind(at int) int {
	if n.nodes[at].Kind != impl.NodeName || n.underLoad(at) {
		return -1
	}
	for _, maker := range n.known(at) {
		if n.nodes[maker].Text == n.nodes[at].Text {
			return maker
		}
	}
	if slices.Contains(builtNames(), n.nodes[at].Text) {
		return -2
	}
	return unknown
}

func (n nest) has(places []int, before int, text string) bool {
	return slices.ContainsFunc(places, func(at int) bool { return at < before && n.nodes[at].Text == text })
}

// code is that of the fault at one node.
func (n nest) code(at int) int {
	node := n.nodes[at]
	if makers := n.madeByFile(); slices.Contains(makers, at) && n.has(makers, at, node.Text) {
		return 8
	}
	if n.bind(at) == unknown {
		return 9
	}
	if node.Kind != impl.NodeParam {
		return 0
	}
	before := n.kids[n.above[at]][:n.turn[at]]
	if n.has(before, at, node.Text) {
		return 8
	}
	if node.Kids == 0 && slices.ContainsFunc(before, func(at int) bool { return n.nodes[at].Kids > 0 }) {
		return 10
	}
	return 0
}

func (n nest) fault() impl.Fault {
	for at := range n.nodes {
		if code := n.code(at); code != 0 {
			return impl.Fault{Code: code, At: at}
		}
	}
	return impl.Fault{}
}

// renamedText is the text of a tree in which the nodes that have to change have the name.
func renamedText(tree impl.Tree, at int, name string) string {
	return impl.Print(impl.Tree{Nodes: renamedNodes(tree, at, name)})
}

func renamedNodes(tree impl.Tree, at int, name string) []impl.Node {
	n := nestOf(tree)
	nodes := slices.Clone(tree.Nodes)
	for place := range nodes {
		if place == at || n.bind(place) == at {
			nodes[place].Text = name
		}
	}
	return nodes
}

// checkNames holds Check, Binds and Locals against the second reading, and tells whether the tree fits.
func checkNames(t *testing.T, tree impl.Tree) bool {
	t.Helper()
	n := nestOf(tree)
	want := n.fault()
	if got := impl.Check(tree); got != want {
		t.Fatalf("Check(%q): got %+v, want %+v", impl.Print(tree), got, want)
	}
	var binds, locals []int
	if want.Code == 0 {
		for at, node := range tree.Nodes {
			binds = append(binds, n.bind(at))
			if node.Kind == impl.NodeLet || node.Kind == impl.NodeEach {
				locals = append(locals, at)
			}
		}
	}
	if got := impl.Binds(tree); !slices.Equal(got, binds) {
		t.Fatalf("Binds(%q): got %v, want %v", impl.Print(tree), got, binds)
	}
	if got := impl.Locals(tree); !slices.Equal(got, locals) {
		t.Fatalf("Locals(%q): got %v, want %v", impl.Print(tree), got, locals)
	}
	return want.Code == 0
}

// checkRenames asks promise 4 of each name that may be changed: the tree fits, binds as before, and comes back unless something else has the old name.
func checkRenames(t *testing.T, tree impl.Tree) {
	t.Helper()
	locals := impl.Locals(tree)
	for _, at := range locals {
		renamed, code := impl.Rename(tree, at, "new")
		if code != 0 || !slices.Equal(renamed.Nodes, renamedNodes(tree, at, "new")) {
			t.Fatalf("Rename(%q, %d): %d, %q", impl.Print(tree), at, code, impl.Print(renamed))
		}
		if !slices.Equal(impl.Binds(renamed), impl.Binds(tree)) || !slices.Equal(impl.Locals(renamed), locals) {
			t.Fatalf("Rename(%q, %d): %q binds %v", impl.Print(tree), at, impl.Print(renamed), impl.Binds(renamed))
		}
		old := tree.Nodes[at].Text
		taken := slices.Contains(builtNames(), old) || nestOf(renamed).has(all(renamed), len(renamed.Nodes), old)
		again, code := impl.Rename(renamed, at, old)
		if taken && (code != 3 || again.Nodes != nil) || !taken && (code != 0 || !slices.Equal(again.Nodes, tree.Nodes)) {
			t.Fatalf("Rename(%q, %d) back: %d, %q", impl.Print(tree), at, code, impl.Print(again))
		}
	}
	for at := -2; at < len(tree.Nodes)+2; at++ {
		if !slices.Contains(locals, at) {
			wantNotRenamed(t, tree, at, "new", 2)
		}
	}
}

func all(tree impl.Tree) []int {
	places := make([]int, len(tree.Nodes))
	for at := range places {
		places[at] = at
	}
	return places
}

// TestEveryNaming puts each of some names into each place of some forms.
func TestEveryNaming(t *testing.T) {
	fits, unfit := 0, 0
	check := func(src string) {
		tree := parsed(t, src)
		if checkNames(t, tree) {
			fits++
			checkRenames(t, tree)
		} else {
			unfit++
		}
	}
	for _, form := range []string{
		"let ? = let ? = ? in [? for ? in ? if ?];",
		"def ?(?, ? = ?, ? = ?) = ?;",
		"emit fn(?, ? = ?) => let ? = ? in ?;",
		"emit fn(? = ?, ?) => ?; let ? = ?;",
		`load "p": ?, ?; let ? = ?; def ?() = ?;`,
		`emit ?; def ?(?) = ?; load "p": ?; load "a": ?;`,
		"emit let ? = let ? = ? in ? in let ? = ? in ?;",
		"emit [[? for ? in ?] for ? in [? for ? in ?]];",
		"def ?(? = fn(? = ?) => ?) = fn(?) => ?;",
		"let ? = {a: ?}.b; emit ?(?, a = ?, b = ?);",
	} {
		eachNaming(form, check)
	}
	if fits < 2000 || unfit < 2000 {
		t.Errorf("%d fit and %d do not", fits, unfit)
	}
}

func eachNaming(form string, check func(src string)) {
	if !strings.Contains(form, "?") {
		check(form)
		return
	}
	for _, name := range []string{"a", "b", "len"} {
		eachNaming(strings.Replace(form, "?", name, 1), check)
	}
}

// renamedAtWill gives all that make names few of them, and most of those that use one a name that is known there.
func (d drawer) renamedAtWill(tree impl.Tree) impl.Tree {
	few := []string{"a", "b", "c", "d", "e", "len", "fail"}
	nodes := slices.Clone(tree.Nodes)
	n := nestOf(impl.Tree{Nodes: nodes})
	for at := range nodes {
		switch nodes[at].Kind {
		case impl.NodeLet, impl.NodeEach, impl.NodeParam, impl.NodeDef, impl.NodeSet, impl.NodeName:
			nodes[at].Text = few[d.IntN(len(few))]
		}
	}
	for at := range nodes {
		known := n.known(at)
		if nodes[at].Kind != impl.NodeName || n.underLoad(at) || len(known) == 0 || d.IntN(15) == 0 {
			continue
		}
		nodes[at].Text = nodes[known[d.IntN(len(known))]].Text
	}
	return impl.Tree{Nodes: nodes}
}

func TestNamesOfDrawnTrees(t *testing.T) {
	draw := drawer{rand.New(rand.NewPCG(3, 4))}
	fits, unfit := 0, map[int]int{}
	for range 6000 {
		tree := draw.renamedAtWill(file(draw.statement(), draw.statement(), draw.statement()))
		if !impl.ValidTree(tree) {
			t.Fatalf("not valid: %+v", tree)
		}
		if len(tree.Nodes) > 300 {
			continue
		}
		if checkNames(t, tree) {
			fits++
			checkRenames(t, tree)
		} else {
			unfit[impl.Check(tree).Code]++
		}
	}
	if fits < 300 || unfit[8] < 300 || unfit[9] < 300 || unfit[10] < 300 {
		t.Errorf("%d fit; codes of the others: %v", fits, unfit)
	}
}
