package tests

import (
	"fmt"
	"maps"
	"math"
	"math/rand/v2"
	"slices"
	"strings"
	"testing"

	"loop.example/kilnclay/impl"
)

// orderKey is a text for each value, so that values come in the order of their texts: kinds and ends stand in it as single bytes, an end before each kind.
func orderKey(x any) string {
	switch x := x.(type) {
	case nil:
		return "\x01"
	case bool:
		return "\x02" + map[bool]string{false: "-", true: "~"}[x]
	case int:
		return "\x03" + fmt.Sprintf("%016x", uint64(x)^(1<<63))
	case string:
		return "\x04" + strings.ReplaceAll(x, "\x00", "\x00\xff") + "\x00\x01"
	case list:
		key := "\x05"
		for _, item := range x {
			key += orderKey(item)
		}
		return key + "\x00"
	case fields:
		key := "\x06"
		for _, name := range slices.Sorted(maps.Keys(x)) {
			key += orderKey(name) + orderKey(x[name])
		}
		return key + "\x00"
	}
	panic(fmt.Sprintf("%T is no value", x))
}

// leaves are values with nothing inside, edges among them.
func leaves() []any {
	return []any{nil, false, true, math.MinInt, -math.MaxInt, -2, -1, 0, 1, 2, 10, math.MaxInt, "", "\x00", "1", "A", "a", "a\x00", "aa", "ab", "b", "\x7f", "\x80", "\xff"}
}

// smallValues are values of few atoms, each once.
func smallValues() []any {
	values := append(leaves(), list{}, fields{})
	few := []any{nil, true, -1, 0, "", "a", list{}, list{0}, fields{}, fields{"a": 0}}
	for _, first := range few {
		values = append(values, list{first}, fields{"": first}, fields{"a": first}, fields{"b": first}, list{list{list{first}}})
		for _, second := range few {
			values = append(values, list{first, second}, fields{"a": first, "b": second}, fields{"a": first, "aa": second}, list{list{first}, second})
		}
	}
	byForm := map[string]any{}
	for _, x := range values {
		byForm[written(x)] = x
	}
	return slices.Collect(maps.Values(byForm))
}

// value makes a value that is drawn, most of them valid.
func (d drawer) value(deep int) any {
	kinds := impl.AtomRecord
	if deep == 0 {
		kinds = impl.AtomText
	}
	switch 1 + d.IntN(kinds) {
	case impl.AtomNone:
		return nil
	case impl.AtomBool:
		return d.IntN(2) == 0
	case impl.AtomInt:
		return []int{math.MinInt, math.MaxInt, int(d.Int64()) >> d.IntN(64), -int(d.Int64()) >> d.IntN(64), d.IntN(5) - 2}[d.IntN(5)]
	case impl.AtomText:
		return d.text()
	case impl.AtomList:
		made := list{}
		for range d.IntN(4) {
			made = append(made, d.value(deep-1))
		}
		return made
	}
	made := fields{}
	for range d.IntN(4) {
		made[d.text()] = d.value(deep - 1)
	}
	return made
}

func (d drawer) text() string {
	pieces := []string{"a", "b", "_", "9", "if", "A", " ", "\"", "\\", "\x00", "\xfe", strings.Repeat("n", 29)}
	made := ""
	for range d.IntN(4) {
		made += pieces[d.IntN(len(pieces))]
	}
	return made
}

// checkOrder asks for just one order between the values of a list that is in order, over all that is between them.
func checkOrder(t *testing.T, values []any) {
	t.Helper()
	slices.SortFunc(values, func(a, b any) int { return strings.Compare(orderKey(a), orderKey(b)) })
	made := make([]impl.Value, len(values))
	for i, x := range values {
		made[i] = given(x)
	}
	for i := range made {
		for k := range made {
			want := strings.Compare(orderKey(values[i]), orderKey(values[k]))
			if got := impl.Order(made[i], made[k]); got != want {
				t.Fatalf("Order(%s, %s): got %d, want %d", written(values[i]), written(values[k]), got, want)
			}
		}
	}
}

func TestOrderOfKindsAndEdges(t *testing.T) {
	row := []any{
		nil, false, true, math.MinInt, -math.MaxInt, -10, -9, -1, 0, 1, 9, 10, math.MaxInt,
		"", "\x00", "-", "10", "9", "B", "a", "a\x00", "aa", "ab", "b", "\x80", "\xff",
		list{}, list{nil}, list{nil, nil}, list{nil, false}, list{false}, list{1}, list{1, 0}, list{1, 0, nil}, list{1, 1}, list{2}, list{10}, list{"a"}, list{list{}}, list{list{}, nil}, list{list{9}}, list{fields{}},
		fields{}, fields{"": 9}, fields{"a": nil}, fields{"a": nil, "b": nil}, fields{"a": nil, "c": nil}, fields{"a": 1}, fields{"a": 1, "b": 0}, fields{"a": 1, "b": 0, "c": 0}, fields{"a": 1, "b": 1}, fields{"a": 1, "c": 0}, fields{"a": 2}, fields{"a": fields{}}, fields{"aa": 0}, fields{"b": 0}, fields{"b": 0, "c": 0},
	}
	for i := range row {
		for k := range row {
			want := 0
			if i < k {
				want = -1
			} else if i > k {
				want = 1
			}
			if got := impl.Order(given(row[i]), given(row[k])); got != want {
				t.Errorf("Order(%s, %s): got %d, want %d", written(row[i]), written(row[k]), got, want)
			}
		}
	}
}

func TestOrderIsTotal(t *testing.T) {
	checkOrder(t, smallValues())
	draw := drawer{rand.New(rand.NewPCG(5, 1))}
	drawn := map[string]any{}
	for len(drawn) < 400 {
		x := draw.value(4)
		drawn[written(x)] = x
	}
	checkOrder(t, slices.Collect(maps.Values(drawn)))
}

// meantByTree is the value that an E means, if the E is one of those that are forms of values: it takes the tree for it, not the text.
func meantByTree(src string) (any, bool) {
	tree, fault := impl.Parse("let x = " + src + ";")
	size := len(tree.Nodes)
	if fault.Code != 0 || tree.Nodes[size-1].Kids != 1 {
		return nil, false
	}
	var open []any
	type named struct {
		name  string
		value any
	}
	for _, node := range tree.Nodes[:size-2] {
		kids := slices.Clone(open[len(open)-node.Kids:])
		open = open[:len(open)-node.Kids]
		var made any
		switch node.Kind {
		case impl.NodeNone:
		case impl.NodeBool:
			made = node.N == 1
		case impl.NodeInt:
			made = int(node.N)
		case impl.NodeText:
			made = node.Text
		case impl.NodeUn:
			n, ok := kids[0].(int)
			if !ok || node.Op != impl.OpNeg || n <= 0 {
				return nil, false
			}
			made = -n
		case impl.NodeBin:
			if node.Op != impl.OpSub || kids[0] != any(-math.MaxInt) || kids[1] != any(1) {
				return nil, false
			}
			made = math.MinInt
		case impl.NodeList:
			made = list(kids)
		case impl.NodeField:
			made = named{node.Text, kids[0]}
		case impl.NodeRecord:
			record := fields{}
			for _, kid := range kids {
				record[kid.(named).name] = kid.(named).value
			}
			made = record
		default:
			return nil, false
		}
		open = append(open, made)
	}
	return open[0], true
}

// checkRead holds ReadValue against the tree of a text and the form of what this means.
func checkRead(t *testing.T, src string) {
	x, ok := meantByTree(src)
	if !ok || written(x) != src || !impl.ValidValue(given(x)) {
		if v, ok := impl.ReadValue(src); ok || len(v.Atoms) != 0 {
			t.Fatalf("ReadValue(%q): %s, %v", src, brief(v), ok)
		}
		return
	}
	wantForm(t, x, src)
}

func TestReadEveryShortText(t *testing.T) {
	everyText(strings.Split("[ ] { } : , - 0 1 \" a", " "), 4, func(src string) { checkRead(t, src) })
	pieces := []string{"[", "]", "{", "}", ", ", ": ", ",", ":", " ", "(", ")", "-", "0", "17", "none", "true", "false", `"a"`, `"if"`, `""`, "a", "b", "if", "-9223372036854775807", " - 1"}
	everyText(pieces, 3, func(src string) { checkRead(t, src) })
	everyText([]string{"]", "}", ", ", "[", "1", "none", "b: ", `"A": `, "c: ", "-9223372036854775807", " - 1"}, 4, func(src string) {
		checkRead(t, "["+src)
		checkRead(t, "{"+src)
		checkRead(t, "{b: 1"+src)
	})
}

// Each form with one byte more, less or other.
func TestReadDrawnForms(t *testing.T) {
	draw := drawer{rand.New(rand.NewPCG(5, 2))}
	for range 150 {
		form := written(draw.value(3))
		checkRead(t, form)
		for at := range len(form) {
			checkRead(t, form[:at]+form[at+1:])
			for _, b := range []string{" ", "0", "1", "a", "\"", ",", "[", "]", "-", form[at : at+1]} {
				checkRead(t, form[:at]+b+form[at:])
				checkRead(t, form[:at]+b+form[at+1:])
			}
		}
	}
}

// A form is written as Print would write it, and its ops give the value.
func TestFormsArePrinted(t *testing.T) {
	draw := drawer{rand.New(rand.NewPCG(5, 3))}
	for range 2000 {
		x := draw.value(4)
		src := "let x = " + impl.FormValue(given(x)) + ";\n"
		tree, fault := impl.Parse(src)
		if fault.Code != 0 || impl.Print(tree) != src {
			t.Fatalf("%q is printed as %q, %+v", src, impl.Print(tree), fault)
		}
		if meant, ok := meantByTree(written(x)); !ok || orderKey(meant) != orderKey(x) {
			t.Fatalf("%q means %v", src, meant)
		}
		if got, word := meaning(t, written(x)); word != "" || !sameValue(got, given(x)) {
			t.Fatalf("%q comes to %s, %q", src, brief(got), word)
		}
	}
}

// validFrom reads atoms from the last one downwards, which is at end-1: the place at which its own begin, or -1.
func validFrom(atoms []impl.Atom, end, above int) int {
	if end == 0 || above > 12 {
		return -1
	}
	atom := atoms[end-1]
	uses := impl.Atom{Kind: atom.Kind}
	switch atom.Kind {
	case impl.AtomNone:
	case impl.AtomBool:
		uses.N = atom.N & 1
	case impl.AtomInt:
		uses.N = atom.N
	case impl.AtomText:
		uses.Text = atom.Text[:min(len(atom.Text), 1000)]
	case impl.AtomList:
		uses.Kids = max(0, min(atom.Kids, 200))
	case impl.AtomRecord:
		uses.Kids = max(0, min(atom.Kids, 400)) &^ 1
	default:
		return -1
	}
	if atom != uses {
		return -1
	}
	start, last := end-1, ""
	for kid := range atom.Kids {
		if atom.Kind == impl.AtomRecord && kid%2 == 1 {
			if start == 0 || atoms[start-1].Kind != impl.AtomText || kid > 1 && atoms[start-1].Text >= last {
				return -1
			}
			last = atoms[start-1].Text
		}
		if start = validFrom(atoms, start, above+1); start < 0 {
			return -1
		}
	}
	return start
}

func checkValid(t *testing.T, atoms []impl.Atom) {
	want := validFrom(atoms, len(atoms), 0) == 0
	v := impl.Value{Atoms: atoms}
	if got := impl.ValidValue(v); got != want {
		t.Fatalf("ValidValue(%s): %v", brief(v), got)
	}
	form := impl.FormValue(v)
	read, ok := impl.ReadValue(form)
	if ok != want || (form != "") != want || want && !sameValue(read, v) {
		t.Fatalf("%s: its form is %q, read %v: %s", brief(v), form, ok, brief(read))
	}
}

// everyValue calls do with each list of at most size atoms.
func everyValue(atoms []impl.Atom, size int, do func([]impl.Atom)) {
	var grow func([]impl.Atom, int)
	grow = func(before []impl.Atom, left int) {
		do(before)
		if left == 0 {
			return
		}
		for _, atom := range atoms {
			grow(append(slices.Clip(before), atom), left-1)
		}
	}
	grow(nil, size)
}

func TestEveryShortListOfAtoms(t *testing.T) {
	good := []impl.Atom{
		{Kind: impl.AtomInt, N: -1}, {Kind: impl.AtomText, Text: "a"}, {Kind: impl.AtomText, Text: "b"},
		{Kind: impl.AtomList}, {Kind: impl.AtomList, Kids: 1}, {Kind: impl.AtomList, Kids: 2},
		{Kind: impl.AtomRecord}, {Kind: impl.AtomRecord, Kids: 2}, {Kind: impl.AtomRecord, Kids: 4},
	}
	bad := []impl.Atom{
		{}, {Kind: 7}, {Kind: impl.AtomNone, N: 1}, {Kind: impl.AtomNone, Kids: 1}, {Kind: impl.AtomNone}, {Kind: impl.AtomBool, N: 1}, {Kind: impl.AtomBool, N: 2},
		{Kind: impl.AtomInt, Text: "a"}, {Kind: impl.AtomText, Text: "a", Kids: 1}, {Kind: impl.AtomText, N: 1},
		{Kind: impl.AtomList, Kids: -1}, {Kind: impl.AtomList, N: 1}, {Kind: impl.AtomRecord, Kids: 1}, {Kind: impl.AtomRecord, Kids: -2}, {Kind: impl.AtomRecord, Text: "a"},
	}
	check := func(atoms []impl.Atom) { checkValid(t, atoms) }
	everyValue(good, 5, check)
	everyValue(append(bad, good...), 3, check)
}
