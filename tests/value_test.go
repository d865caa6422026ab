package tests

import (
	"fmt"
	"maps"
	"math"
	"regexp"
	"slices"
	"strconv"
	"strings"
	"testing"

	"loop.example/kilnclay/impl"
)

// A value is written down in tests as one of Go's own: nil, a bool, an int, a string, a list or fields.
type list []any
type fields map[string]any

// given is such a value as the program takes it.
func given(x any) impl.Value {
	return impl.Value{Atoms: givenBehind(x, nil)}
}

func givenBehind(x any, before []impl.Atom) []impl.Atom {
	switch x := x.(type) {
	case nil:
		return append(before, impl.Atom{Kind: impl.AtomNone})
	case bool:
		return append(before, impl.Atom{Kind: impl.AtomBool, N: map[bool]int64{true: 1}[x]})
	case int:
		return append(before, impl.Atom{Kind: impl.AtomInt, N: int64(x)})
	case string:
		return append(before, impl.Atom{Kind: impl.AtomText, Text: x})
	case list:
		for _, item := range x {
			before = givenBehind(item, before)
		}
		return append(before, impl.Atom{Kind: impl.AtomList, Kids: len(x)})
	case fields:
		for _, name := range slices.Sorted(maps.Keys(x)) {
			before = givenBehind(x[name], givenBehind(name, before))
		}
		return append(before, impl.Atom{Kind: impl.AtomRecord, Kids: 2 * len(x)})
	}
	panic(fmt.Sprintf("%T is no value", x))
}

// written is the form of such a value, as the document says it.
func written(x any) string {
	switch x := x.(type) {
	case nil:
		return "none"
	case int:
		if x == math.MinInt {
			return "-9223372036854775807 - 1"
		}
		return strconv.Itoa(x)
	case string:
		return inQuotes(x)
	case list:
		var items []string
		for _, item := range x {
			items = append(items, written(item))
		}
		return "[" + strings.Join(items, ", ") + "]"
	case fields:
		var rows []string
		for _, name := range slices.Sorted(maps.Keys(x)) {
			rows = append(rows, asFieldName(name)+": "+written(x[name]))
		}
		return "{" + strings.Join(rows, ", ") + "}"
	}
	return fmt.Sprint(x)
}

func inQuotes(text string) string {
	out := []byte{'"'}
	for _, b := range []byte(text) {
		if b < 32 || b > 126 || b == '"' || b == '\\' {
			out = fmt.Appendf(out, `\%02x`, b)
		} else {
			out = append(out, b)
		}
	}
	return string(append(out, '"'))
}

var fieldName = regexp.MustCompile(`^[a-z_][a-z0-9_]{0,29}$`)

func asFieldName(name string) string {
	if fieldName.MatchString(name) && !slices.Contains(words(), name) {
		return name
	}
	return inQuotes(name)
}

// brief is what a test tells of a value.
func brief(v impl.Value) string {
	return fmt.Sprintf("%.90s", fmt.Sprint(v.Atoms))
}

func sameValue(a, b impl.Value) bool {
	return slices.Equal(a.Atoms, b.Atoms)
}

// wantForm asks for a value that is valid, for its form, and for the value of this form.
func wantForm(t *testing.T, x any, form string) {
	t.Helper()
	v := given(x)
	if !impl.ValidValue(v) {
		t.Errorf("%.90s is not valid", form)
	}
	if got := impl.FormValue(v); got != form {
		t.Errorf("FormValue: got %.90q, want %.90q", got, form)
	}
	if got, ok := impl.ReadValue(form); !ok || !sameValue(got, v) {
		t.Errorf("ReadValue(%.90q): %s, %v", form, brief(got), ok)
	}
	if got := impl.Order(v, given(x)); got != 0 {
		t.Errorf("Order of %.90s and the same: %d", form, got)
	}
}

// wantNoForm asks ReadValue for nothing.
func wantNoForm(t *testing.T, text string) {
	t.Helper()
	if v, ok := impl.ReadValue(text); ok || len(v.Atoms) != 0 {
		t.Errorf("ReadValue(%.90q): %s, %v", text, brief(v), ok)
	}
}

// wantNoValue asks every function that takes values for its answer to one that is not valid.
func wantNoValue(t *testing.T, what string, v impl.Value) {
	t.Helper()
	if impl.ValidValue(v) {
		t.Errorf("%s is valid", what)
	}
	if form := impl.FormValue(v); form != "" {
		t.Errorf("%s is written: %.90q", what, form)
	}
	wantNoTarget(t, what, v)
	wantEnd := func(call string, got impl.Value, word string) {
		if word != "type" || len(got.Atoms) != 0 {
			t.Errorf("%s, given to %s: %s, %q", what, call, brief(got), word)
		}
	}
	for op := impl.OpNot; op <= impl.OpNeg; op++ {
		got, word := impl.Un(op, v)
		wantEnd(fmt.Sprint("Un ", op), got, word)
	}
	for _, other := range []impl.Value{v, given(nil), given(true), given(0), given("a"), given(list{}), given(fields{"a": 1})} {
		if impl.Order(v, other) != 0 || impl.Order(other, v) != 0 {
			t.Errorf("%s has an order", what)
		}
		for op := impl.OpOr; op <= impl.OpRem; op++ {
			got, word := impl.Op(op, v, other)
			wantEnd(fmt.Sprint("Op ", op), got, word)
			got, word = impl.Op(op, other, v)
			wantEnd(fmt.Sprint("Op ", op), got, word)
		}
		for _, name := range builtNames() {
			for _, args := range [][]impl.Value{{v}, {v, other}, {other, v}, {v, other, other}, {other, v, other}, {other, other, v}} {
				got, word := impl.Built(name, args)
				wantEnd(name, got, word)
			}
		}
	}
}

func TestValueConstants(t *testing.T) {
	got := []int{impl.AtomNone, impl.AtomBool, impl.AtomInt, impl.AtomText, impl.AtomList, impl.AtomRecord, impl.MaxAtoms, impl.MaxDeep}
	if want := []int{1, 2, 3, 4, 5, 6, 1000, 12}; !slices.Equal(got, want) {
		t.Errorf("got %v, want %v", got, want)
	}
}

func TestEachKindOfValue(t *testing.T) {
	wantForm(t, nil, "none")
	wantForm(t, false, "false")
	wantForm(t, true, "true")
	wantForm(t, 0, "0")
	wantForm(t, 10, "10")
	wantForm(t, -1, "-1")
	wantForm(t, math.MaxInt, "9223372036854775807")
	wantForm(t, -math.MaxInt, "-9223372036854775807")
	wantForm(t, math.MinInt, "-9223372036854775807 - 1")
	wantForm(t, "", `""`)
	wantForm(t, "none", `"none"`)
	wantForm(t, "a b~", `"a b~"`)
	wantForm(t, "\"\\\x00\x1f\x7f\xff\n", `"\22\5c\00\1f\7f\ff\0a"`)
	wantForm(t, list{}, "[]")
	wantForm(t, list{nil, true, 1, "a", list{}, fields{}}, `[none, true, 1, "a", [], {}]`)
	wantForm(t, list{math.MinInt, -2, list{math.MinInt}}, "[-9223372036854775807 - 1, -2, [-9223372036854775807 - 1]]")
	wantForm(t, fields{}, "{}")
	wantForm(t, fields{"b": list{fields{"c": -3}}, "a": math.MinInt}, "{a: -9223372036854775807 - 1, b: [{c: -3}]}")
}

func TestNamesOfRecords(t *testing.T) {
	wantForm(t, fields{"": 1}, `{"": 1}`)
	wantForm(t, fields{"if": 1, "iff": 2}, `{"if": 1, iff: 2}`)
	wantForm(t, fields{"_": 1, "a_1": 2, "_9": 3}, `{_: 1, _9: 3, a_1: 2}`)
	wantForm(t, fields{"9": 1, "A": 2, "a b": 3, "a-b": 4, "\x80": 5}, `{"9": 1, "A": 2, "a b": 3, "a-b": 4, "\80": 5}`)
	for _, word := range words() {
		wantForm(t, fields{word: nil}, `{"`+word+`": none}`)
		wantNoForm(t, "{"+word+": none}")
	}
	for _, name := range builtNames() {
		wantForm(t, fields{name: nil}, "{"+name+": none}")
	}
	name := strings.Repeat("n", impl.MaxName)
	wantForm(t, fields{name: 1, name + "n": 2}, "{"+name+`: 1, "`+name+`n": 2}`)
	wantNoForm(t, "{"+name+"n: 1}")
}

func TestTextsThatAreNearlyForms(t *testing.T) {
	for _, text := range []string{
		"", " ", "\n", "#", "a", "none ", " none", "none\n", "none#", "nonee", "None", "not true", "falsetrue", "none none",
		"00", "01", "-00", "-01", "-0", "--1", "- 1", "+1", "1 ", "1.0", "1a", "1_", "0x1", "-", "-none", "-[]", "-a",
		"9223372036854775808", "-9223372036854775808", "-9223372036854775807 -1", "-9223372036854775807- 1", "-9223372036854775807 - 2", "-9223372036854775807 - 10",
		"-9223372036854775807  - 1", "-9223372036854775806 - 1", "9223372036854775807 - 1", "1 - 1", "-1 - 1", "1 + 1",
		`"`, `"a`, `a"`, `"a"b`, `"a""b"`, `"\41"`, `"\20"`, `"\0A"`, `"\0"`, `"\"`, `"\n"`, "\"\n\"", "\"\x00\"", "\"\x7f\"", "\"\xff\"", `'a'`,
		"(1)", "([])", "[(1)]", "{a: (1)}", "[-9223372036854775807 - 1", "(-9223372036854775807 - 1)",
		"[", "]", "[1", "1]", "[1,]", "[1, ]", "[,]", "[, 1]", "[1 ,2]", "[1,2]", "[1,  2]", "[ 1]", "[1 ]", "[ ]", "[1 2]", "[1, 2]]", "[[1, 2]", "[1}", "[1; 2]", "[1,\n2]", "[a]",
		"{", "}", "{ }", "{a}", "{a: }", "{a:1}", "{a : 1}", "{a:  1}", "{a: 1,}", "{a: 1, }", "{, a: 1}", "{ a: 1}", "{a: 1 }", "{a: 1,b: 2}", "{a = 1}", "{1: 1}", "{a: 1]", "{none: 1}",
		`{"a": 1}`, `{"_": 1}`, `{a: 1, "b": 2}`, `{a: {"c": 1}}`, "{b: 1, a: 2}", "{a: 1, a: 1}", "{a: 1, a: 2}", `{a: 1, "": 2}`, `{"if": 1, "A": 2}`, `{"if": 1, "if": 1}`, "{A: 1}", "{a: 1, 2}",
		"none;", "emit none;", "let x = none;", "[x for x in []]", "if true then 1 else 2", "fn() => 1", "[1][0]", "{a: 1}.a", "len", "len([])",
	} {
		wantNoForm(t, text)
	}
}

func TestAtomsThatAreNoValue(t *testing.T) {
	none, one, text := impl.Atom{Kind: impl.AtomNone}, impl.Atom{Kind: impl.AtomInt, N: 1}, impl.Atom{Kind: impl.AtomText, Text: "a"}
	lists := func(kids int) impl.Atom { return impl.Atom{Kind: impl.AtomList, Kids: kids} }
	records := func(kids int) impl.Atom { return impl.Atom{Kind: impl.AtomRecord, Kids: kids} }
	for what, atoms := range map[string][]impl.Atom{
		"no atoms":                nil,
		"a kind 0":                {{}},
		"a kind 7":                {{Kind: 7}},
		"a kind -1":               {{Kind: -1}},
		"a kind 0 inside":         {{}, lists(1)},
		"a none with N":           {{Kind: impl.AtomNone, N: 1}},
		"a none with Text":        {{Kind: impl.AtomNone, Text: "a"}},
		"a none with Kids":        {none, {Kind: impl.AtomNone, Kids: 1}},
		"a bool 2":                {{Kind: impl.AtomBool, N: 2}},
		"a bool -1":               {{Kind: impl.AtomBool, N: -1}},
		"a bool with Text":        {{Kind: impl.AtomBool, Text: "a"}},
		"a bool with Kids":        {none, {Kind: impl.AtomBool, Kids: 1}},
		"a number with Text":      {{Kind: impl.AtomInt, Text: "a"}},
		"a number with Kids":      {none, {Kind: impl.AtomInt, Kids: 1}},
		"a text with N":           {{Kind: impl.AtomText, N: 1}},
		"a text with Kids":        {none, {Kind: impl.AtomText, Kids: 1}},
		"a text that is too long": {{Kind: impl.AtomText, Text: strings.Repeat("x", 1001)}},
		"a list with N":           {{Kind: impl.AtomList, N: 1}},
		"a list with Text":        {{Kind: impl.AtomList, Text: "a"}},
		"a list with Kids -1":     {lists(-1)},
		"a list without its item": {lists(1)},
		"a list without one item": {none, lists(2)},
		"a list of greatest Kids": {none, lists(math.MaxInt)},
		"a list of least Kids":    {none, lists(math.MinInt)},
		"a record with N":         {{Kind: impl.AtomRecord, N: 1}},
		"a record with Text":      {{Kind: impl.AtomRecord, Text: "a"}},
		"a record with Kids -2":   {none, none, records(-2)},
		"a record, one kid":       {text, records(1)},
		"a record, three kids":    {text, one, {Kind: impl.AtomText, Text: "b"}, records(3)},
		"a record without kids":   {records(2)},
		"a number as a name":      {one, one, records(2)},
		"a list as a name":        {lists(0), one, records(2)},
		"a none as second name":   {text, one, none, one, records(4)},
		"a name twice":            {text, one, text, one, records(4)},
		"names that go down":      {{Kind: impl.AtomText, Text: "b"}, one, text, one, records(4)},
		"a name behind a longer":  {{Kind: impl.AtomText, Text: "aa"}, one, text, one, records(4)},
		"a name that is too long": {{Kind: impl.AtomText, Text: strings.Repeat("x", 1001)}, one, records(2)},
		"a wrong record inside":   {none, one, one, records(2), lists(2)},
		"two values":              {none, none},
		"a value behind a list":   {none, lists(1), none},
		"a value ahead of a list": {none, none, lists(1)},
	} {
		wantNoValue(t, what, impl.Value{Atoms: atoms})
	}
	wantForm(t, strings.Repeat("x", 1000), `"`+strings.Repeat("x", 1000)+`"`)
	wantForm(t, fields{strings.Repeat("x", 1000): 1}, `{"`+strings.Repeat("x", 1000)+`": 1}`)
	wantNoForm(t, `"`+strings.Repeat("x", 1001)+`"`)
	wantNoForm(t, `{"`+strings.Repeat("x", 1001)+`": 1}`)
}

// wantValueLimit asks for a value that is as large as it may be, or for one that is not valid.
func wantValueLimit(t *testing.T, what string, x any, fits bool) {
	t.Helper()
	if fits {
		wantForm(t, x, written(x))
		return
	}
	wantNoValue(t, what, given(x))
	wantNoForm(t, written(x))
}

// many is a list of so many items.
func many(item any, times int) list {
	return slices.Repeat(list{item}, times)
}

func manyFields(value any, times int) fields {
	made := fields{}
	for i := range times {
		made[fmt.Sprintf("n%03d", i)] = value
	}
	return made
}

// wrapped is a value below so many lists, or records.
func wrapped(x any, lists, records int) any {
	for range records {
		x = fields{"a": x}
	}
	for range lists {
		x = list{x}
	}
	return x
}

func TestLimitsOfValues(t *testing.T) {
	for more := range 2 {
		fits := more == 0
		wantValueLimit(t, "a long list", many(0, 200+more), fits)
		wantValueLimit(t, "a long list inside", fields{"a": many(nil, 200+more)}, fits)
		wantValueLimit(t, "a record of many names", manyFields(0, 200+more), fits)
		wantValueLimit(t, "a record of many names inside", list{manyFields(0, 200+more)}, fits)
		wantValueLimit(t, "many atoms in a list", append(many(many(0, 199), 4), many(0, 198+more)), fits)
		wantValueLimit(t, "many atoms in a record", fields{"a": manyFields(0, 199), "b": manyFields(0, 199), "c": many(0, 197+more)}, fits)
		wantValueLimit(t, "a deep list", wrapped(1, 12+more, 0), fits)
		wantValueLimit(t, "a deep empty list", wrapped(list{}, 12+more, 0), fits)
		wantValueLimit(t, "a deep empty record", wrapped(fields{}, 12+more, 0), fits)
		wantValueLimit(t, "a deep record", wrapped(1, 0, 12+more), fits)
		wantValueLimit(t, "a deep record with an empty list", wrapped(list{}, 0, 12+more), fits)
		wantValueLimit(t, "lists and records", wrapped("", 5+more, 7), fits)
		wantValueLimit(t, "a deep item behind others", list{1, wrapped(1, 11+more, 0), 2}, fits)
	}
}

// The text of a package has a limit, the form of a value has not.
func TestFormsBeyondSource(t *testing.T) {
	x := many(many(strings.Repeat("\x00", 1000), 198), 5)
	wantForm(t, x, written(x))
	for _, opening := range []string{"[", "{a: ", "-", "(", "\"", "[[], ", "[1, ", "{\"\": "} {
		wantNoForm(t, strings.Repeat(opening, 3_000_000))
	}
	wantNoForm(t, strings.Repeat("x", 3_000_000))
	wantNoForm(t, strings.Repeat("1", 3_000_000))
}

func TestValueAnswersAreNew(t *testing.T) {
	room := append(given(fields{"a": list{"x", 2}}).Atoms, impl.Atom{Kind: 98}, impl.Atom{Kind: 97})
	before := slices.Clone(room)
	v := impl.Value{Atoms: room[:len(room)-2]}
	for range 2 {
		if !impl.ValidValue(v) || impl.Order(v, v) != 0 || impl.FormValue(v) != `{a: ["x", 2]}` || !slices.Equal(room, before) {
			t.Fatalf("changed: %+v", room)
		}
		read, _ := impl.ReadValue(`{a: ["x", 2]}`)
		if !sameValue(read, v) {
			t.Errorf("%+v", read)
		}
		for i := range read.Atoms[:cap(read.Atoms)] {
			read.Atoms[:cap(read.Atoms)][i] = impl.Atom{Kind: 99, Text: "changed"}
		}
	}
}
