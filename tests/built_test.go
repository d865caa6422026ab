package tests

import (
	"fmt"
	"maps"
	"math"
	"slices"
	"strings"
	"testing"

	"loop.example/kilnclay/impl"
)

// meaning is what an E of constants, ops and built names comes to, by Un, Op and Built alone.
func meaning(t *testing.T, src string) (impl.Value, string) {
	t.Helper()
	nodes := parsed(t, "let x = "+src+";").Nodes
	var open []impl.Value
	var names []string
	for _, node := range nodes[:len(nodes)-2] {
		kids := slices.Clone(open[len(open)-node.Kids:])
		open = open[:len(open)-node.Kids]
		made, word := given(nil), ""
		switch node.Kind {
		case impl.NodeNone:
		case impl.NodeBool:
			made = given(node.N == 1)
		case impl.NodeInt:
			made = given(int(node.N))
		case impl.NodeText:
			made = given(node.Text)
		case impl.NodeUn:
			made, word = impl.Un(node.Op, kids[0])
		case impl.NodeBin:
			made, word = impl.Op(node.Op, kids[0], kids[1])
		case impl.NodeName:
			names = append(names, node.Text)
		case impl.NodeCall:
			made, word = impl.Built(names[len(names)-1], kids[1:])
			names = names[:len(names)-1]
		case impl.NodeList, impl.NodeRecord:
			made = holding(node.Kind-impl.NodeList+impl.AtomList, kids)
		case impl.NodeField:
			made = impl.Value{Atoms: append(given(node.Text).Atoms, kids[0].Atoms...)}
		default:
			t.Fatalf("%s: kind %d", src, node.Kind)
		}
		if word != "" {
			return made, word
		}
		open = append(open, made)
	}
	return open[0], ""
}

// holding is a list of values, or a record of names with values behind them.
func holding(kind int, kids []impl.Value) impl.Value {
	outer := impl.Atom{Kind: kind, Kids: len(kids)}
	if kind == impl.AtomRecord {
		outer.Kids *= 2
	}
	var atoms []impl.Atom
	for _, kid := range kids {
		atoms = append(atoms, kid.Atoms...)
	}
	return impl.Value{Atoms: append(atoms, outer)}
}

// wantMeanings reads lines `E => form` and `E => !word`.
func wantMeanings(t *testing.T, lines string) {
	t.Helper()
	for line := range strings.Lines(strings.TrimSpace(lines)) {
		src, want, _ := strings.Cut(strings.TrimSpace(line), " => ")
		if got := answer(meaning(t, src)); got != want {
			t.Errorf("%s: got %s, want %s", src, got, want)
		}
	}
}

// answer is a form, or `!word`; with a word there may be nothing else.
func answer(got impl.Value, word string) string {
	switch {
	case word == "":
		return impl.FormValue(got)
	case len(got.Atoms) > 0:
		return "!" + word + " beside " + brief(got)
	}
	return "!" + word
}

func wantOp(t *testing.T, op int, a, b any, want string) {
	t.Helper()
	if got := answer(impl.Op(op, given(a), given(b))); got != want {
		t.Errorf("%.90s op %d %.90s: got %.90s, want %.90s", written(a), op, written(b), got, want)
	}
}

func wantBuilt(t *testing.T, want, name string, args ...any) {
	t.Helper()
	var values []impl.Value
	for _, arg := range args {
		values = append(values, given(arg))
	}
	if got := answer(impl.Built(name, values)); got != want {
		t.Errorf("%s%.90s: got %.90s, want %.90s", name, written(list(args)), got, want)
	}
}

func TestOpsOfNumbers(t *testing.T) {
	wantMeanings(t, `
1 + 2 => 3
-1 + -2 => -3
9223372036854775807 + 0 => 9223372036854775807
9223372036854775807 + 1 => !range
1 + 9223372036854775807 => !range
9223372036854775807 + -9223372036854775807 => 0
9223372036854775806 + 1 => 9223372036854775807
-9223372036854775807 + -1 => -9223372036854775807 - 1
-9223372036854775807 + -2 => !range
-9223372036854775807 - 1 + 0 => -9223372036854775807 - 1
-9223372036854775807 - 1 + -1 => !range
(-9223372036854775807 - 1) + (-9223372036854775807 - 1) => !range
2 - 5 => -3
0 - 9223372036854775807 => -9223372036854775807
-9223372036854775807 - 1 => -9223372036854775807 - 1
-9223372036854775807 - 2 => !range
-9223372036854775807 - 1 - 1 => !range
0 - (-9223372036854775807 - 1) => !range
-1 - (-9223372036854775807 - 1) => 9223372036854775807
9223372036854775807 - -1 => !range
9223372036854775806 - -1 => 9223372036854775807
(-9223372036854775807 - 1) - (-9223372036854775807 - 1) => 0
3 * -4 => -12
0 * (-9223372036854775807 - 1) => 0
(-9223372036854775807 - 1) * 0 => 0
(-9223372036854775807 - 1) * 1 => -9223372036854775807 - 1
1 * (-9223372036854775807 - 1) => -9223372036854775807 - 1
(-9223372036854775807 - 1) * -1 => !range
-1 * (-9223372036854775807 - 1) => !range
9223372036854775807 * -1 => -9223372036854775807
4611686018427387904 * -2 => -9223372036854775807 - 1
-2 * 4611686018427387904 => -9223372036854775807 - 1
4611686018427387904 * 2 => !range
3037000499 * 3037000499 => 9223372030926249001
3037000500 * 3037000500 => !range
4294967296 * 4294967296 => !range
(-9223372036854775807 - 1) * (-9223372036854775807 - 1) => !range
-7 => -7
-(-7) => 7
-0 => 0
-(-9223372036854775807) => 9223372036854775807
-(-9223372036854775807 - 1) => !range
`)
}

func TestQuotientsAndRests(t *testing.T) {
	wantMeanings(t, `
7 / 2 => 3
7 % 2 => 1
7 / -2 => -4
7 % -2 => -1
-7 / 2 => -4
-7 % 2 => 1
-7 / -2 => 3
-7 % -2 => -1
6 / 3 => 2
6 % 3 => 0
6 / -3 => -2
6 % -3 => 0
-6 / 3 => -2
-6 % 3 => 0
-6 / -3 => 2
-6 % -3 => 0
0 / 5 => 0
0 % 5 => 0
0 / -5 => 0
0 % -5 => 0
1 / 2 => 0
1 % 2 => 1
1 / -2 => -1
1 % -2 => -1
-1 / 2 => -1
-1 % 2 => 1
1 / 0 => !divide
1 % 0 => !divide
0 / 0 => !divide
0 % 0 => !divide
(-9223372036854775807 - 1) / 0 => !divide
(-9223372036854775807 - 1) % 0 => !divide
(-9223372036854775807 - 1) / -1 => !range
(-9223372036854775807 - 1) % -1 => 0
(-9223372036854775807 - 1) / 1 => -9223372036854775807 - 1
(-9223372036854775807 - 1) % 1 => 0
(-9223372036854775807 - 1) / 2 => -4611686018427387904
(-9223372036854775807 - 1) / -2 => 4611686018427387904
(-9223372036854775807 - 1) / 9223372036854775807 => -2
(-9223372036854775807 - 1) % 9223372036854775807 => 9223372036854775806
(-9223372036854775807 - 1) / (-9223372036854775807 - 1) => 1
9223372036854775807 / (-9223372036854775807 - 1) => -1
9223372036854775807 % (-9223372036854775807 - 1) => -1
1 / (-9223372036854775807 - 1) => -1
1 % (-9223372036854775807 - 1) => -9223372036854775807
-1 / (-9223372036854775807 - 1) => 0
-1 % (-9223372036854775807 - 1) => -1
9223372036854775807 / -1 => -9223372036854775807
`)
}

func TestOpsOfAllElse(t *testing.T) {
	wantMeanings(t, `
true or false => true
false or true => true
false or false => false
true and true => true
true and false => false
false and true => false
not true => false
not false => true
"a" + "b" => "ab"
"" + "" => ""
[1, none] + [[2]] => [1, none, [2]]
[] + [] => []
{a: 1, b: 2} + {b: 3, c: 4} => {a: 1, b: 3, c: 4}
{b: 3, c: 4} + {a: 1, b: 2} => {a: 1, b: 2, c: 4}
{b: 1} + {"": 2, "B": 3, z: 4} => {"": 2, "B": 3, b: 1, z: 4}
{a: {b: 1}} + {a: {c: 2}} => {a: {c: 2}}
{} + {a: 1} => {a: 1}
{a: 1} + {} => {a: 1}
{} + {} => {}
1 == 1 => true
1 == true => false
"1" == 1 => false
none == none => true
[1, {a: 2}] == [1, {a: 2}] => true
[1] == [1, 1] => false
{a: 1} == {a: 2} => false
1 != 1 => false
1 != none => true
{} != [] => true
false < true => true
true < true => false
1 < 2 => true
2 <= 2 => true
3 <= 2 => false
"b" > "ab" => true
"b" > "b" => false
[1] >= [1] => true
[1] >= [1, 0] => false
[1, 2] < [2] => true
[] < [none] => true
[none] < [{}] => true
[{a: 1}] < [{a: 2}] => true
"abc" has "bc" => true
"abc" has "ac" => false
"abc" has "" => true
"" has "" => true
"" has "a" => false
[1, none, [2]] has none => true
[1, none, [2]] has [2] => true
[1, none, [2]] has 2 => false
[{a: 1}] has {a: 1} => true
[] has [] => false
["a"] has "a" => true
["ab"] has "a" => false
{a: 1, "b c": 2} has "b c" => true
{a: 1, b: 2} has "a" => true
{a: 1} has "b" => false
{} has "" => false
`)
}

// kindsOf has values of each kind.
func kindsOf() map[int][]any {
	return map[int][]any{
		impl.AtomNone:   {nil},
		impl.AtomBool:   {false, true},
		impl.AtomInt:    {0, -1, 2},
		impl.AtomText:   {"", "a", "1"},
		impl.AtomList:   {list{}, list{1}, list{"a"}, list{list{"a", 1}}},
		impl.AtomRecord: {fields{}, fields{"a": 1}},
	}
}

// What fits an op: the kinds of its two values, as digits, 0 for each kind.
func opKinds() map[int]string {
	return map[int]string{
		impl.OpOr: "22", impl.OpAnd: "22", impl.OpSame: "00", impl.OpOther: "00",
		impl.OpLess: "22 33 44 55", impl.OpMost: "22 33 44 55", impl.OpMore: "22 33 44 55", impl.OpLeast: "22 33 44 55",
		impl.OpHas: "44 50 64", impl.OpAdd: "33 44 55 66", impl.OpSub: "33", impl.OpMul: "33", impl.OpDiv: "33", impl.OpRem: "33",
	}
}

// What fits a built name, in the same way.
func builtKinds() map[string]string {
	return map[string]string{
		"len": "4 5 6", "text": "0", "int": "4", "range": "3", "sorted": "5", "unique": "5", "join": "54", "split": "44",
		"keys": "6", "record": "5", "without": "64", "begins": "44", "cut": "433 533", "files": "", "fail": "",
	}
}

func fitsKinds(rows string, kinds ...int) bool {
	return slices.ContainsFunc(strings.Fields(rows), func(row string) bool {
		for i, kind := range kinds {
			if len(row) != len(kinds) || row[i] != '0' && int(row[i]-'0') != kind {
				return false
			}
		}
		return len(row) == len(kinds)
	})
}

// everyKinds calls do with so many values of each kinds.
func everyKinds(size int, do func(kinds []int, values list)) {
	all := kindsOf()
	var grow func([]int, list)
	grow = func(kinds []int, values list) {
		if len(kinds) == size {
			do(kinds, values)
			return
		}
		for kind := impl.AtomNone; kind <= impl.AtomRecord; kind++ {
			for _, value := range all[kind] {
				grow(append(slices.Clip(kinds), kind), append(slices.Clip(values), value))
			}
		}
	}
	grow(nil, nil)
}

func TestOpsThatDoNotFit(t *testing.T) {
	everyKinds(2, func(kinds []int, values list) {
		for op := -2; op < 40; op++ {
			_, word := impl.Op(op, given(values[0]), given(values[1]))
			if (word != "type") != fitsKinds(opKinds()[op], kinds...) {
				t.Errorf("%s op %d: %q", written(values), op, word)
			}
			if op < impl.OpOr || op > impl.OpRem {
				wantOp(t, op, values[0], values[1], "!type")
			}
		}
	})
	everyKinds(1, func(kinds []int, values list) {
		for op := -2; op < 40; op++ {
			want := "!type"
			if n, ok := values[0].(int); ok && op == impl.OpNeg {
				want = written(-n)
			} else if b, ok := values[0].(bool); ok && op == impl.OpNot {
				want = written(!b)
			}
			if got := answer(impl.Un(op, given(values[0]))); got != want {
				t.Errorf("Un %d %s: got %s, want %s", op, written(values[0]), got, want)
			}
		}
	})
}

// A list of the right kind may be of the wrong items, for join and record.
func TestBuiltNamesThatDoNotFit(t *testing.T) {
	for size := range 4 {
		everyKinds(size, func(kinds []int, values list) {
			for name, rows := range builtKinds() {
				args := make([]impl.Value, size)
				for i, value := range values {
					args[i] = given(value)
				}
				got, word := impl.Built(name, args)
				if word != "" && len(got.Atoms) != 0 {
					t.Errorf("%s%s: %s beside %q", name, written(values), brief(got), word)
				}
				fits := fitsKinds(rows, kinds...)
				if fits && name == "join" {
					fits = written(values[0]) == "[]" || written(values[0]) == `["a"]`
				} else if fits && name == "record" {
					fits = written(values[0]) == "[]" || written(values[0]) == `[["a", 1]]`
				}
				if (word != "type") != fits {
					t.Errorf("%s%s: %q", name, written(values), word)
				}
			}
		})
	}
	for _, name := range slices.Concat([]string{"", "Len", "len ", "nothing", "args", "early"}, words()) {
		for _, args := range []list{{}, {""}, {list{}}, {"", ""}, {"", 0, 0}} {
			wantBuilt(t, "!type", name, args...)
		}
	}
	for name := range maps.Keys(builtKinds()) {
		wantBuilt(t, "!type", name)
		wantBuilt(t, "!type", name, "", "", "", "")
		wantBuilt(t, "!type", name, many("", 300)...)
	}
}

func TestBuiltNamesAnswer(t *testing.T) {
	wantMeanings(t, `
len("") => 0
len("a\00\ff") => 3
len([]) => 0
len([1, [2, 3]]) => 2
len({}) => 0
len({a: [1, 2], b: 3}) => 2
text("") => ""
text("a\22") => "a\22"
text(none) => "none"
text(true) => "true"
text(-5) => "-5"
text(-9223372036854775807 - 1) => "-9223372036854775807 - 1"
text([1, "a"]) => "[1, \22a\22]"
text({a: 1, "if": none}) => "{a: 1, \22if\22: none}"
int("0") => 0
int("12") => 12
int("-12") => -12
int("9223372036854775807") => 9223372036854775807
int("-9223372036854775808") => -9223372036854775807 - 1
int("9223372036854775808") => !range
int("-9223372036854775809") => !range
int("99999999999999999999999999") => !range
int("") => !range
int("-") => !range
int("-0") => !range
int("+1") => !range
int("00") => !range
int("01") => !range
int("-01") => !range
int("1 ") => !range
int(" 1") => !range
int("1_0") => !range
int("0x1") => !range
int("1e3") => !range
int("1.0") => !range
int("--1") => !range
int("one") => !range
int("-9223372036854775807 - 1") => !range
range(0) => []
range(1) => [0]
range(3) => [0, 1, 2]
range(-1) => !range
range(-9223372036854775807 - 1) => !range
sorted([]) => []
sorted([2, 1, 2, none]) => [none, 1, 2, 2]
sorted([{}, [], "", 0, false, none]) => [none, false, 0, "", [], {}]
sorted(["b", "a", "ab", ""]) => ["", "a", "ab", "b"]
sorted([{b: 1}, {a: 2}, {a: 1, b: 1}]) => [{a: 1, b: 1}, {a: 2}, {b: 1}]
unique([]) => []
unique([2, 1, 2, 2, 1, 3]) => [2, 1, 3]
unique([1, true, "1", none, [1], 1, [1], none]) => [1, true, "1", none, [1]]
unique([{a: 1}, {a: 1}]) => [{a: 1}]
join([], "-") => ""
join(["a"], "-") => "a"
join(["a", "b", ""], "-") => "a-b-"
join(["a", "b"], "") => "ab"
join(["", ""], ", ") => ", "
join([1], "-") => !type
join(["a", none], "-") => !type
join(["a", ["b"]], "-") => !type
split("a,b", ",") => ["a", "b"]
split("", ",") => [""]
split(",", ",") => ["", ""]
split(",a,,b,", ",") => ["", "a", "", "b", ""]
split("a", ",") => ["a"]
split("aaa", "aa") => ["", "a"]
split("aaaa", "aa") => ["", "", ""]
split("a, b", ", ") => ["a", "b"]
split("ab", "ab") => ["", ""]
split("ab", "abc") => ["ab"]
split("a", "") => !range
split("", "") => !range
keys({}) => []
keys({"": 3, "A": 1, a: 2, "if": 4}) => ["", "A", "a", "if"]
record([]) => {}
record([["b", 1], ["a", 2], ["", none]]) => {"": none, a: 2, b: 1}
record([["a", ["a", 1]]]) => {a: ["a", 1]}
record([["b", 1], ["b", 1]]) => !key
record([["b", 1], ["a", 2], ["b", 3]]) => !key
record([["", 1], ["", 2]]) => !key
record([["b"]]) => !type
record([[]]) => !type
record([["b", 1, 2]]) => !type
record([[1, "b"]]) => !type
record([["a", 1], "b"]) => !type
record([["a", 1], {b: 1}]) => !type
record([["a", 1], ["a", 2], ["b"]]) => !type
record([["a", 1], ["a", 2], none]) => !type
without({a: 1, b: 2, c: 3}, "b") => {a: 1, c: 3}
without({a: 1}, "a") => {}
without({a: 1}, "b") => {a: 1}
without({"": 1, a: {"": 2}}, "") => {a: {"": 2}}
without({}, "") => {}
begins("abc", "ab") => true
begins("abc", "abc") => true
begins("abc", "bc") => false
begins("a", "ab") => false
begins("a", "") => true
begins("", "") => true
begins("", "a") => false
cut("abc", 0, 3) => "abc"
cut("abc", 1, 2) => "b"
cut("abc", 0, 0) => ""
cut("abc", 3, 3) => ""
cut("", 0, 0) => ""
cut("abc", 2, 1) => !range
cut("abc", 0, 4) => !range
cut("abc", 4, 4) => !range
cut("abc", -1, 2) => !range
cut("abc", -2, -1) => !range
cut("abc", 0, -1) => !range
cut("abc", 0, 9223372036854775807) => !range
cut("abc", -9223372036854775807 - 1, 2) => !range
cut([1, [2], 3], 0, 3) => [1, [2], 3]
cut([1, [2], 3], 1, 2) => [[2]]
cut([1, [2], 3], 3, 3) => []
cut([], 0, 0) => []
cut([1], 1, 0) => !range
cut([1], 0, 2) => !range
cut([1], -1, 1) => !range
files("") => !type
fail("") => !type
`)
}

// What may be as large as a value, and one more. No op and no built name makes anything deeper.
func TestAnswersThatAreTooLarge(t *testing.T) {
	for more := range 2 {
		want := func(x any) string {
			if more == 1 {
				return "!large"
			}
			return written(x)
		}
		long := strings.Repeat("x", 1000)
		wantOp(t, impl.OpAdd, long[:500], long[500-more:], want(long))
		wantOp(t, impl.OpAdd, "", long, written(long))
		wantOp(t, impl.OpAdd, many(0, 100), many(0, 100+more), want(many(0, 200)))
		wantOp(t, impl.OpAdd, many(many(0, 99), 5), list{many(0, 199), many(0, 199), many(0, 98+more)}, want(append(many(many(0, 99), 5), many(0, 199), many(0, 199), many(0, 98))))
		wantBuilt(t, want(countedTo(200)), "range", 200+more)
		wantBuilt(t, want(many("", 200)), "split", strings.Repeat(",", 199+more), ",")
		wantBuilt(t, want(long), "join", list{long[:400], long[:400]}, long[:200+more])
		wantBuilt(t, want(long), "join", list{long, ""}, long[:more])
		// A form has quotes or brackets of its own.
		wantBuilt(t, want("["+inQuotes(long[:996])+"]"), "text", list{long[:996+more]})
		wantBuilt(t, written(long), "text", long)
	}
	wantBuilt(t, "!large", "range", math.MaxInt)
	wantBuilt(t, "!large", "join", many(strings.Repeat("x", 1000), 200), strings.Repeat("x", 1000))
	wantBuilt(t, "!large", "text", many(many(strings.Repeat("\x00", 1000), 190), 5))
	wantBuilt(t, "!large", "split", strings.Repeat("x", 1000), "x")
	deep := wrapped(1, 11, 0)
	wantOp(t, impl.OpAdd, list{deep}, list{deep, 2}, written(list{deep, deep, 2}))
	wantOp(t, impl.OpAdd, fields{"a": deep}, fields{"b": deep}, written(fields{"a": deep, "b": deep}))
	wantBuilt(t, written(fields{"a": wrapped(1, 10, 0)}), "record", list{list{"a", wrapped(1, 10, 0)}})
	wantBuilt(t, written(manyFields(0, 200)), "record", pairsOf(manyFields(0, 200)))
	wantBuilt(t, written(countedNames(200)), "keys", manyFields(0, 200))
}

// What both records have counts once, as it comes out.
func TestRecordsThatAreTooLarge(t *testing.T) {
	wantOp(t, impl.OpAdd, manyFields(0, 200), manyFields(1, 200), written(manyFields(1, 200)))
	wantOp(t, impl.OpAdd, manyFields(0, 200), fields{"n000": 0, "z": 0}, "!large")
	all := manyFields(0, 199)
	all["z"] = 0
	wantOp(t, impl.OpAdd, manyFields(0, 199), fields{"z": 0}, written(all))
	wantOp(t, impl.OpAdd, all, fields{"zz": 0}, "!large")
	first, second := fields{"a": many(0, 199), "b": many(0, 199)}, fields{"a": manyFields(0, 199), "c": manyFields(0, 197), "d": list{}}
	sum := maps.Clone(second)
	sum["b"] = first["b"]
	if size := len(given(sum).Atoms); size != impl.MaxAtoms {
		t.Errorf("%d atoms", size)
	}
	wantOp(t, impl.OpAdd, first, second, written(sum))
	second["d"] = list{0}
	wantOp(t, impl.OpAdd, first, second, "!large")
	second["a"] = 0
	sum["a"], sum["d"] = 0, list{0}
	wantOp(t, impl.OpAdd, first, second, written(sum))
}

func countedTo(size int) list {
	counted := list{}
	for i := range size {
		counted = append(counted, i)
	}
	return counted
}

func countedNames(size int) list {
	names := list{}
	for _, name := range slices.Sorted(maps.Keys(manyFields(0, size))) {
		names = append(names, name)
	}
	return names
}

// pairsOf is a list with a pair for each name, the last one first.
func pairsOf(record fields) list {
	var pairs list
	for _, name := range slices.Sorted(maps.Keys(record)) {
		pairs = append(list{list{name, record[name]}}, pairs...)
	}
	return pairs
}

func TestBuiltAnswersAreNew(t *testing.T) {
	room := func(x any) []impl.Atom {
		return append(given(x).Atoms, impl.Atom{Kind: 98}, impl.Atom{Kind: 97})
	}
	overwrite := func(atoms []impl.Atom) {
		for i := range atoms[:cap(atoms)] {
			atoms[:cap(atoms)][i] = impl.Atom{Kind: 99, Text: "changed"}
		}
	}
	check := func(what string, args list, do func([]impl.Value) (impl.Value, string)) {
		var rooms, before [][]impl.Atom
		var values []impl.Value
		for _, arg := range args {
			atoms := room(arg)
			rooms, before = append(rooms, atoms), append(before, slices.Clone(atoms))
			values = append(values, impl.Value{Atoms: atoms[:len(atoms)-2]})
		}
		kept := slices.Clone(values)
		first, word := do(values)
		form := impl.FormValue(first)
		overwrite(first.Atoms)
		second, _ := do(values)
		if form == "" || word != "" || impl.FormValue(second) != form {
			t.Errorf("%s%s: %q, %q, then %q", what, written(args), form, word, impl.FormValue(second))
		}
		for i := range rooms {
			if !slices.Equal(rooms[i], before[i]) || !sameValue(values[i], kept[i]) {
				t.Errorf("%s%s is changed: %s", what, written(args), brief(values[i]))
			}
			overwrite(rooms[i])
		}
		if impl.FormValue(second) != form {
			t.Errorf("%s%s hangs on its args", what, written(args))
		}
	}
	for op, args := range map[int]list{
		impl.OpSame: {1, 1}, impl.OpHas: {list{1}, 1}, impl.OpAdd: {list{1, "a"}, list{2}}, impl.OpMul: {2, 3},
	} {
		check(fmt.Sprint("op ", op), args, func(values []impl.Value) (impl.Value, string) { return impl.Op(op, values[0], values[1]) })
	}
	check("add", list{fields{"b": 1}, fields{"a": 2, "b": list{}}}, func(values []impl.Value) (impl.Value, string) { return impl.Op(impl.OpAdd, values[0], values[1]) })
	check("neg", list{1}, func(values []impl.Value) (impl.Value, string) { return impl.Un(impl.OpNeg, values[0]) })
	for name, args := range map[string]list{
		"len": {list{1}}, "text": {"a"}, "int": {"1"}, "range": {3}, "sorted": {list{3, list{}, 1}}, "unique": {list{1, 1, "a"}}, "join": {list{"a", "b"}, "-"},
		"split": {"a-b", "-"}, "keys": {fields{"a": 1}}, "record": {list{list{"b", 1}, list{"a", list{2}}}}, "without": {fields{"a": 1, "b": 2}, "a"}, "begins": {"a", ""}, "cut": {list{1, 2, 3}, 1, 2},
	} {
		check(name, args, func(values []impl.Value) (impl.Value, string) { return impl.Built(name, values) })
	}
}
