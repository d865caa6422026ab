package tests

import (
	"regexp"
	"slices"
	"strconv"
	"strings"
	"testing"

	"loop.example/kilnclay/impl"
)

// sprout is the least valid node of a kind; all Texts hang on the place.
func sprout(k int, place int) plant {
	text, one := "t"+strconv.Itoa(place), number(1)
	switch k {
	case impl.NodeBool:
		return boolean(0)
	case impl.NodeInt:
		return one
	case impl.NodeText, impl.NodeName, impl.NodeParam:
		return texted(k, text)
	case impl.NodeUn:
		return unary(impl.OpNot, one)
	case impl.NodeBin:
		return binary(impl.OpOr, one, one)
	case impl.NodeIndex:
		return kind(k, one, one)
	case impl.NodeCall, impl.NodeFn, impl.NodeEmit:
		return kind(k, one)
	case impl.NodeIf:
		return kind(k, one, one, one)
	case impl.NodeLet, impl.NodeEach:
		return texted(k, text, one, one)
	case impl.NodeDot, impl.NodeField, impl.NodeNamed, impl.NodeDef, impl.NodeSet:
		return texted(k, text, one)
	case impl.NodeLoad:
		return texted(k, text, name("a"))
	}
	return kind(k)
}

// fileWith is a file in which a node stands where its kind may stand.
func fileWith(p plant) impl.Tree {
	switch k := p.node.Kind; {
	case k == impl.NodeField:
		return fileOf(kind(impl.NodeRecord, p))
	case k == impl.NodeNamed:
		return fileOf(kind(impl.NodeCall, name("f"), p))
	case k == impl.NodeParam:
		return fileOf(kind(impl.NodeFn, p, number(1)))
	case k >= impl.NodeDef && k <= impl.NodeLoad:
		return file(p)
	case k == impl.NodeFile:
		return impl.Tree{Nodes: p.nodes(nil)}
	}
	return fileOf(p)
}

// kidForms is the document's column of kids: E, and a letter for each other kind; n is a NodeName, which is an E, too.
func kidForms() [25]*regexp.Regexp {
	forms := [25]string{
		impl.NodeUn: "E", impl.NodeBin: "EE", impl.NodeList: "E*", impl.NodeRecord: "F*", impl.NodeIndex: "EE", impl.NodeDot: "E",
		impl.NodeCall: "EE*N*", impl.NodeIf: "EEE", impl.NodeLet: "EE", impl.NodeFn: "P*E", impl.NodeEach: "EEE?",
		impl.NodeField: "E", impl.NodeNamed: "E", impl.NodeParam: "E?", impl.NodeDef: "P*E", impl.NodeSet: "E", impl.NodeEmit: "E",
		impl.NodeLoad: "nn*", impl.NodeFile: "S*",
	}
	var compiled [25]*regexp.Regexp
	for k, form := range forms {
		compiled[k] = regexp.MustCompile("^" + strings.ReplaceAll(form, "E", "[En]") + "$")
	}
	return compiled
}

const kindLetters = "_EEEEnEEEEEEEEEEEFNPSSSSX"

// TestValidKids puts up to three kids of all kinds below a node of each kind.
func TestValidKids(t *testing.T) {
	forms := kidForms()
	check := func(k int, kinds ...int) {
		parent := sprout(k, 0)
		parent.kids = nil
		letters := ""
		for place, kid := range kinds {
			parent.kids = append(parent.kids, sprout(kid, place+1))
			letters += kindLetters[kid : kid+1]
		}
		parent.node.Kids = len(kinds)
		tree := fileWith(parent)
		got, want := impl.ValidTree(tree), forms[k].MatchString(letters)
		if got != want {
			t.Fatalf("kind %d with kids of the kinds %v: %v", k, kinds, got)
		}
		if !want && impl.Fold(tree).Nodes != nil {
			t.Fatalf("kind %d with kids of the kinds %v is folded", k, kinds)
		}
	}
	for k := impl.NodeNone; k <= impl.NodeFile; k++ {
		check(k)
		for a := impl.NodeNone; a <= impl.NodeFile; a++ {
			check(k, a)
			for b := impl.NodeNone; b <= impl.NodeFile; b++ {
				check(k, a, b)
				for c := impl.NodeNone; c <= impl.NodeFile; c++ {
					check(k, a, b, c)
				}
			}
		}
	}
	for _, k := range []int{impl.NodeUn, impl.NodeBin, impl.NodeIndex, impl.NodeDot, impl.NodeIf, impl.NodeLet, impl.NodeEach, impl.NodeSet, impl.NodeEmit} {
		check(k, impl.NodeInt, impl.NodeInt, impl.NodeInt, impl.NodeInt)
	}
	named, e := impl.NodeNamed, impl.NodeName
	check(impl.NodeCall, e, e, e, named, named, named)
	check(impl.NodeCall, e, e, named, e, named)
}

// What a kind does not use is 0 or empty, and what it uses is as the table says.
func TestValidUses(t *testing.T) {
	uses := [25]string{
		impl.NodeBool: "N", impl.NodeInt: "N", impl.NodeText: "T", impl.NodeName: "T", impl.NodeUn: "O", impl.NodeBin: "O", impl.NodeDot: "T",
		impl.NodeLet: "T", impl.NodeEach: "T", impl.NodeField: "T", impl.NodeNamed: "T", impl.NodeParam: "T", impl.NodeDef: "T", impl.NodeSet: "T", impl.NodeLoad: "T",
	}
	check := func(p plant, what string, change func(n *impl.Node)) {
		change(&p.node)
		got, want := impl.ValidTree(fileWith(p)), uses[p.node.Kind] == what
		if got != want {
			t.Errorf("%+v: %v", p.node, got)
		}
		if !want {
			wantNotFolded(t, "not valid", fileWith(p))
		}
	}
	for k := impl.NodeNone; k <= impl.NodeFile; k++ {
		p := sprout(k, 0)
		if !impl.ValidTree(fileWith(p)) {
			t.Errorf("%+v is not valid", p.node)
		}
		check(p, "O", func(n *impl.Node) { n.Op = 2 })
		check(p, "N", func(n *impl.Node) { n.N = 1 })
		check(p, "T", func(n *impl.Node) { n.Text = "a" })
		check(p, "never", func(n *impl.Node) { n.Op = -1 })
		check(p, "never", func(n *impl.Node) { n.N = -1 })
		check(p, "never", func(n *impl.Node) { n.Text = strings.Repeat("x", impl.MaxText+1) })
		for _, kids := range []int{-1, p.node.Kids + 1, 1 << 40, -1 << 63, 1<<63 - 1} {
			check(p, "never", func(n *impl.Node) { n.Kids = kids })
		}
		if p.node.Kids > 0 {
			check(p, "never", func(n *impl.Node) { n.Kids-- })
		}
	}
	for _, k := range []int{-1, 0, 25, 1 << 40} {
		for _, kids := range [][]plant{nil, {number(1)}, {number(1), number(1)}} {
			wantNotValid(t, "no kind", fileOf(kind(k, kids...)))
			wantNotValid(t, "no kind", file(kind(k, kids...)))
		}
	}
}

func TestValidUsesEdges(t *testing.T) {
	valid := func(p plant, want bool) {
		t.Helper()
		if got := impl.ValidTree(fileWith(p)); got != want {
			t.Errorf("%+v: %v", p.node, got)
		}
		if !want {
			wantNotFolded(t, "not valid", fileWith(p))
		}
	}
	for n, want := range map[int64]bool{-1 << 63: false, -1: false, 0: true, 1: true, 2: false, 1<<63 - 1: false} {
		valid(boolean(n), want)
		valid(number(n), n >= 0)
	}
	for op := -1; op < 17; op++ {
		valid(unary(op, number(1)), op == impl.OpNot || op == impl.OpNeg)
		valid(binary(op, number(1), number(1)), op >= impl.OpOr && op <= impl.OpRem)
	}
	long := strings.Repeat("z", impl.MaxName)
	names := map[string]bool{
		"a": true, "_": true, "z9_": true, long: true, "iff": true, "files": true, "": false, long + "z": false, "9": false, "9a": false, "A": false,
		"a ": false, " a": false, "a b": false, "a-b": false, "a.b": false, "aB": false, "é": false, "a\x00": false, "a\n": false,
	}
	for _, word := range words() {
		names[word] = false
	}
	for text, want := range names {
		for _, k := range []int{impl.NodeName, impl.NodeDot, impl.NodeLet, impl.NodeEach, impl.NodeNamed, impl.NodeParam, impl.NodeDef, impl.NodeSet} {
			p := sprout(k, 0)
			p.node.Text = text
			valid(p, want)
		}
		valid(texted(impl.NodeLoad, "p", name("a"), name(text)), want)
	}
	for i := range 256 {
		b := string([]byte{byte(i)})
		valid(text(b), true)
		valid(texted(impl.NodeField, b, number(1)), true)
		valid(name(b), b == "_" || b >= "a" && b <= "z")
		valid(name("a"+b), b == "_" || b >= "a" && b <= "z" || b >= "0" && b <= "9")
		fits := b >= "a" && b <= "z" || b >= "0" && b <= "9" || strings.Contains("_-./", b)
		valid(texted(impl.NodeLoad, b, name("a")), fits)
		valid(texted(impl.NodeLoad, "p"+b, name("a")), fits)
	}
	for _, limited := range []int{impl.NodeText, impl.NodeField} {
		p := sprout(limited, 0)
		p.node.Text = strings.Repeat("\xff", impl.MaxText)
		valid(p, true)
		p.node.Text += "x"
		valid(p, false)
	}
	for text, want := range map[string]bool{"": false, "if": true, "a/b-c.d_0": true, "..": true, long: true, long + "z": false} {
		valid(texted(impl.NodeLoad, text, name("a")), want)
	}
}

func TestValidWhole(t *testing.T) {
	wantNotValid(t, "no nodes", impl.Tree{})
	wantNotValid(t, "no nodes", impl.Tree{Nodes: []impl.Node{}})
	whole := file(texted(impl.NodeSet, "a", number(1)), kind(impl.NodeEmit, number(2)))
	for size := range len(whole.Nodes) {
		wantNotValid(t, "a piece", impl.Tree{Nodes: whole.Nodes[:size]})
		wantNotValid(t, "a piece", impl.Tree{Nodes: whole.Nodes[size+1:]})
	}
	wantNotValid(t, "two files", impl.Tree{Nodes: slices.Concat(whole.Nodes, whole.Nodes)})
	wantNotValid(t, "a file below a file", file(kind(impl.NodeFile)))
	wantNotValid(t, "a node that is not below", impl.Tree{Nodes: slices.Concat(number(1).nodes(nil), whole.Nodes)})
	wantNotValid(t, "a node behind", impl.Tree{Nodes: slices.Concat(whole.Nodes, number(1).nodes(nil))})
	wantNotValid(t, "no file", impl.Tree{Nodes: whole.Nodes[:2]})
}

func TestValidTwice(t *testing.T) {
	field := func(text string) plant { return texted(impl.NodeField, text, number(1)) }
	named := func(text string) plant { return texted(impl.NodeNamed, text, number(1)) }
	param, f := texted(impl.NodeParam, "a"), name("f")
	for _, e := range []plant{
		kind(impl.NodeRecord, field("a"), field("a")), kind(impl.NodeRecord, field(""), field("b"), field("")),
		kind(impl.NodeRecord, field("a"), field("b"), field("b")),
		kind(impl.NodeCall, f, named("a"), named("a")), kind(impl.NodeCall, f, f, named("a"), named("b"), named("a")),
	} {
		wantNotValid(t, "one text twice", fileOf(e))
	}
	// One text may come twice in all other places.
	wantPrinted(t, fileOf(kind(impl.NodeRecord, texted(impl.NodeField, "a", kind(impl.NodeRecord, field("a"))), field("b"))), "emit {a: {a: 1}, b: 1};\n")
	wantPrinted(t, fileOf(kind(impl.NodeCall, f, kind(impl.NodeCall, f, named("a")), named("a"))), "emit f(f(a = 1), a = 1);\n")
	wantPrinted(t, fileOf(kind(impl.NodeCall, f, f, f, named("f"))), "emit f(f, f, f = 1);\n")
	wantPrinted(t, fileOf(kind(impl.NodeFn, param, param, f)), "emit fn(a, a) => f;\n")
	for _, src := range []string{
		`emit {a: 1, "a": 2};`, `emit {"": 1, b: 2, "": 3};`, `emit [{"a b": 1, "a\20b": 1}];`,
		"emit f(a = 1, a = 1);", "emit f(1, a = 1, b = 2, a = 3);", "let a = 1; emit -f(a = 1, a = 1)[0];",
	} {
		wantParseFault(t, src, 7, 0)
	}
}

// repeated is many pieces with a comma between.
func repeated(piece string, times int) string {
	return strings.TrimSuffix(strings.Repeat(piece+", ", times), ", ")
}

func numbered(before, after string, times int) string {
	var pieces []string
	for i := range times {
		pieces = append(pieces, before+strconv.Itoa(i)+after)
	}
	return strings.Join(pieces, ", ")
}

// wantLimit asks for code 0 and a tree that is printed as src, or for code 7.
func wantLimit(t *testing.T, src string, fits bool) {
	t.Helper()
	if !fits {
		wantParseFault(t, src, 7, 0)
		return
	}
	tree, fault := impl.Parse(src)
	if fault.Code != 0 {
		t.Errorf("Parse(%.90q): %+v", src, fault)
		return
	}
	wantPrinted(t, tree, src)
}

func TestLimitsOfKids(t *testing.T) {
	for more := range 2 {
		fits := more == 0
		items, args := impl.MaxList+more, impl.MaxArgs+more
		wantLimit(t, "emit ["+repeated("1", items)+"];\n", fits)
		wantLimit(t, "emit {"+numbered("a", ": 1", items)+"};\n", fits)
		wantLimit(t, `load "p": `+repeated("a", items)+";\n", fits)
		wantLimit(t, strings.Repeat("emit 1;\n", items), fits)
		wantLimit(t, "emit f("+repeated("1", args)+");\n", fits)
		wantLimit(t, "emit f("+numbered("a", " = 1", args)+");\n", fits)
		wantLimit(t, "emit f(1, 2, 3, "+numbered("a", " = 1", args-3)+");\n", fits)
		wantLimit(t, "emit fn("+repeated("a", args)+") => 1;\n", fits)
		wantLimit(t, "def f("+repeated("a = 1", args)+") = 1;\n", fits)
	}
	for more := range 2 {
		many := slices.Repeat([]plant{number(1)}, impl.MaxList+more)
		loads := slices.Repeat([]plant{name("a")}, impl.MaxList+more)
		few := slices.Repeat([]plant{number(1)}, 1+impl.MaxArgs+more)
		for _, tree := range []impl.Tree{fileOf(kind(impl.NodeList, many...)), file(texted(impl.NodeLoad, "p", loads...)), fileOf(kind(impl.NodeCall, few...))} {
			if got := impl.ValidTree(tree); got != (more == 0) {
				t.Errorf("%d kids more: %v", more, got)
			}
			if more > 0 {
				wantNotFolded(t, "kids more", tree)
			}
		}
	}
}

func TestLimitOfNest(t *testing.T) {
	chains := []func(n int) string{
		func(n int) string { return strings.Repeat("-", n) + "1" },
		func(n int) string { return strings.Repeat("not ", n) + "a" },
		func(n int) string { return strings.Repeat("[", n) + "1" + strings.Repeat("]", n) },
		func(n int) string { return "1" + strings.Repeat(" + 1", n) },
		func(n int) string { return strings.Repeat("1 + (", n-1) + "1 + 1" + strings.Repeat(")", n-1) },
		func(n int) string { return "a" + strings.Repeat(".b", n) },
		func(n int) string { return "f" + strings.Repeat("()", n) },
		func(n int) string { return strings.Repeat("a[", n) + "1" + strings.Repeat("]", n) },
		func(n int) string { return strings.Repeat("if a then b else ", n) + "1" },
		func(n int) string { return strings.Repeat("if ", n) + "a" + strings.Repeat(" then b else c", n) },
		func(n int) string { return strings.Repeat("let a = 1 in ", n) + "a" },
		func(n int) string { return strings.Repeat("fn() => ", n) + "1" },
		func(n int) string { return strings.Repeat("[", n) + "1" + strings.Repeat(" for a in b]", n) },
		func(n int) string { return strings.Repeat("[a for b in ", n) + "1" + strings.Repeat("]", n) },
	}
	for _, chain := range chains {
		// Above the last node are the n of the chain, the emit and the file.
		wantLimit(t, "emit "+chain(impl.MaxNest-2)+";\n", true)
		wantLimit(t, "emit "+chain(impl.MaxNest-1)+";\n", false)
		wantLimit(t, "emit 1;\nemit "+chain(impl.MaxNest-2)+";\nemit 1;\n", true)
		wantLimit(t, "emit 1;\nemit "+chain(impl.MaxNest-1)+";\nemit 1;\n", false)
	}
	// Fields, NodeNamed and defaults are nodes as well.
	wantLimit(t, "emit "+strings.Repeat("{a: ", 24)+"1"+strings.Repeat("}", 24)+";\n", true)
	wantLimit(t, "emit "+strings.Repeat("{a: ", 24)+"[1]"+strings.Repeat("}", 24)+";\n", false)
	wantLimit(t, "emit "+strings.Repeat("f(a = ", 24)+"1"+strings.Repeat(")", 24)+";\n", true)
	wantLimit(t, "emit "+strings.Repeat("fn(a = ", 24)+"-1"+strings.Repeat(") => 1", 24)+";\n", false)
	// Brackets are none.
	wantTree(t, "emit "+strings.Repeat("(", 3996)+"1"+strings.Repeat(")", 3996)+";", fileOf(number(1)))
	wantParseFault(t, "emit "+strings.Repeat("-", impl.MaxSrc-7)+"1;", 7, 0)
	wantParseFault(t, "emit "+strings.Repeat("[", 3990)+"1"+strings.Repeat("]", 3990)+";", 7, 0)
}

// bushes is a file of as many nodes, its text short enough to be read.
func bushes(nodes int) string {
	src, left := "", nodes-1
	for left > 0 {
		size := min(left, 46)
		if left-size == 1 {
			size--
		}
		src += "emit " + strings.Repeat("-", size-2) + "1;\n"
		left -= size
	}
	return src
}

func TestLimitOfNodes(t *testing.T) {
	for nodes := impl.MaxNodes - 50; nodes <= impl.MaxNodes; nodes++ {
		wantLimit(t, bushes(nodes), true)
		if tree, _ := impl.Parse(bushes(nodes)); len(tree.Nodes) != nodes {
			t.Fatalf("%d nodes, not %d", len(tree.Nodes), nodes)
		}
	}
	for _, more := range []int{1, 2, 40} {
		wantLimit(t, bushes(impl.MaxNodes+more), false)
	}
	lists := func(last int) impl.Tree {
		var all []plant
		for range 24 {
			all = append(all, kind(impl.NodeEmit, kind(impl.NodeList, slices.Repeat([]plant{number(1)}, impl.MaxList)...)))
		}
		return file(append(all, kind(impl.NodeEmit, kind(impl.NodeList, slices.Repeat([]plant{number(1)}, last)...)))...)
	}
	full := impl.MaxNodes - 1 - 24*(impl.MaxList+2) - 2
	if tree := lists(full); len(tree.Nodes) != impl.MaxNodes || !impl.ValidTree(tree) {
		t.Errorf("%d nodes are not valid", len(tree.Nodes))
	}
	wantNotValid(t, "a node too many", lists(full+1))
	wantNotValid(t, "many nodes", impl.Tree{Nodes: make([]impl.Node, 100000)})
}

func TestLimitOfTexts(t *testing.T) {
	full := strings.Repeat("x", impl.MaxText)
	wantPrinted(t, fileOf(text(full)), `emit "`+full+`";`+"\n")
	wantNotValid(t, "a text too long", fileOf(text(full+"x")))
	wantPrinted(t, fileOf(text(strings.Repeat("\n", impl.MaxText))), `emit "`+strings.Repeat(`\0a`, impl.MaxText)+`";`+"\n")
	long := strings.Repeat("x", impl.MaxName)
	wantPrinted(t, file(texted(impl.NodeLoad, long, name(long))), `load "`+long+`": `+long+";\n")
	wantParseFault(t, `load "`+long+`x": a;`, 7, 0)
	for _, none := range []string{`""`, `"A"`, `"a b"`, `"a\00"`, `"a:b"`} {
		wantParseFault(t, "load "+none+": a;", 7, 0)
	}
}

// A tree whose text would be too long is valid and printed as nothing.
func TestLimitOfSource(t *testing.T) {
	sized := func(size int) impl.Tree {
		full := text(strings.Repeat("\x00", impl.MaxText))
		rest := size - len(`emit ["", "", "", ""];`+"\n") - 3*2*impl.MaxText
		return fileOf(kind(impl.NodeList, full, full, text(strings.Repeat("x", rest/2)), text(strings.Repeat("x", rest-rest/2))))
	}
	if printed := impl.Print(sized(impl.MaxSrc)); len(printed) != impl.MaxSrc {
		t.Errorf("%d bytes are printed", len(printed))
	}
	wantTree(t, impl.Print(sized(impl.MaxSrc)), sized(impl.MaxSrc))
	for _, size := range []int{impl.MaxSrc + 1, impl.MaxSrc + 10} {
		if printed := impl.Print(sized(size)); !impl.ValidTree(sized(size)) || printed != "" {
			t.Errorf("%d bytes: %d are printed", size, len(printed))
		}
	}
	huge := fileOf(kind(impl.NodeList, slices.Repeat([]plant{text(strings.Repeat("\x00", impl.MaxText))}, impl.MaxList)...))
	if printed := impl.Print(huge); !impl.ValidTree(huge) || printed != "" {
		t.Errorf("%d bytes are printed", len(printed))
	}
	// A text may be read though it is too long when it is printed.
	dense := "emit [" + strings.TrimSuffix(strings.Repeat("[1,1,1,1,1,1,1,1,1,1,1,1,1,1,1,1,1],", 199), ",") + "];"
	tree, fault := impl.Parse(dense)
	if fault.Code != 0 || impl.Print(tree) != "" {
		t.Errorf("%d bytes: %+v, %d are printed", len(dense), fault, len(impl.Print(tree)))
	}
	padded := "emit 1;" + strings.Repeat(" ", impl.MaxSrc-7)
	wantTree(t, padded, fileOf(number(1)))
	wantParseFault(t, padded+" ", 1, 0)
}

func TestTreeAnswersAreNew(t *testing.T) {
	const src = `load "p": a; def f(b, c = "x") = {d: [b, c]};`
	first, _ := impl.Parse(src)
	want := slices.Clone(first.Nodes)
	spare := first.Nodes[:cap(first.Nodes)]
	for i := range spare {
		spare[i] = impl.Node{Kind: 99, Text: "changed"}
	}
	wantTree(t, src, impl.Tree{Nodes: want})
	// Nothing is written into an argument or behind its end.
	room := append(slices.Clone(want), impl.Node{Kind: 98}, impl.Node{Kind: 97})
	before := slices.Clone(room)
	tree := impl.Tree{Nodes: room[:len(want)]}
	if impl.ValidTree(tree); impl.Print(tree) == "" || !slices.Equal(room, before) {
		t.Errorf("changed: %+v", room)
	}
}
