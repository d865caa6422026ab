package tests

import (
	"fmt"
	"maps"
	"slices"
	"strings"
	"testing"

	"loop.example/kilnclay/impl"
)

// toldOf is values as a run tells them: Go's own as in given, or those of the program, which may be not valid. From is no matter.
func toldOf(values ...any) []impl.Told {
	var told []impl.Told
	for i, x := range values {
		v, ok := x.(impl.Value)
		if !ok {
			v = given(x)
		}
		told = append(told, impl.Told{From: []string{"m", "lib", "", "\x00"}[i%4], Value: v})
	}
	return told
}

// makes is a target with no more than it has to have.
func makes(name string, outs ...any) fields {
	return fields{"name": name, "tool": "t", "outs": list(outs)}
}

// but is a record in which a name names something else.
func but(record fields, name string, x any) fields {
	changed := maps.Clone(record)
	changed[name] = x
	return changed
}

func lacking(record fields, name string) fields {
	changed := maps.Clone(record)
	delete(changed, name)
	return changed
}

// planLine is all of a Plan in a line.
func planLine(p impl.Plan) string {
	line := fmt.Sprintf("%q", p.Targets)
	if p.Code != 0 || p.At != 0 {
		line = fmt.Sprintf("%d at %d %s", p.Code, p.At, line)
	}
	return strings.TrimSuffix(line, " []")
}

func wantPlan(t *testing.T, want string, values ...any) {
	t.Helper()
	told := toldOf(values...)
	if got := planLine(impl.Targets(told)); got != want {
		t.Errorf("%.300s\ngot  %.300s\nwant %.300s", toldText(told), got, want)
	}
	checkPlan(t, told)
}

func toldText(told []impl.Told) string {
	var forms []string
	for _, one := range told {
		forms = append(forms, impl.FormValue(one.Value))
	}
	return strings.Join(forms, " ")
}

func TestPlans(t *testing.T) {
	wantPlan(t, "[]")
	if p := impl.Targets([]impl.Told{}); p.Code != 0 || p.At != 0 || len(p.Targets) != 0 {
		t.Errorf("%+v", p)
	}
	wantPlan(t, `[{"n" "t" "" [] ["o"]}]`, makes("n", "o"))
	wantPlan(t, `[{"n" "t" "-x y" [] ["o"]}]`, but(makes("n", "o"), "arg", "-x y"))
	wantPlan(t, `[{"n" "t" "" ["i"] ["o"]}]`, but(makes("n", "o"), "ins", list{"i"}))
	wantPlan(t, `[{"n" "t" "a" ["i" "k"] ["o" "p"]}]`, fields{"name": "n", "tool": "t", "arg": "a", "ins": list{"i", "k"}, "outs": list{"o", "p"}})
	wantPlan(t, `[{"n" "n" "n" ["n"] ["n"]}]`, fields{"name": "n", "tool": "n", "arg": "n", "ins": list{"n"}, "outs": list{"n"}})
	wantPlan(t, `[{"a" "t" "" [] ["o"]} {"b" "ld" "" [] ["p"]}]`, makes("a", "o"), but(makes("b", "p"), "tool", "ld"))
	wantPlan(t, `[{"a" "t" "" [] ["o"]} {"b" "ld" "" [] ["p"]}]`, but(makes("b", "p"), "tool", "ld"), makes("a", "o"))
}

func TestPlansAreAscending(t *testing.T) {
	names := []string{"\x00", "\n", " ", "-", "1", "10", "9", "A", "B", "_", "a", "a\x00", "a b", "aa", "ab", "b", "\x7f", "\x80", "\xff", "\xff\x00"}
	wanted, back := []string{}, []any{}
	var told []any
	for i, name := range names {
		wanted = append(wanted, fmt.Sprintf(`{%q "t" "" [] ["o%d"]}`, name, i))
		told = append(told, makes(name, fmt.Sprint("o", i)))
		back = append(back, name)
	}
	want := "[" + strings.Join(wanted, " ") + "]"
	wantPlan(t, want, told...)
	slices.Reverse(told)
	wantPlan(t, want, told...)
	slices.Reverse(back)
	sorted := fmt.Sprintf("%q", names)
	wantPlan(t, `[{"n" "t" "" `+sorted+` ["o"]}]`, but(makes("n", "o"), "ins", list(back)))
	wantPlan(t, `[{"n" "t" "" [] `+sorted+`}]`, makes("n", back...))
	wantPlan(t, `[{"n" "t" "" `+sorted+` `+sorted+`}]`, but(makes("n", back...), "ins", list(back)))
}

// A name may be a tool, an in or an out, an in the out of any target.
func TestPlansOfTextsThatComeAgain(t *testing.T) {
	wantPlan(t, `[{"a" "a" "a" ["a" "b"] ["a"]} {"b" "a" "a" ["a" "b"] ["b"]}]`,
		fields{"name": "b", "tool": "a", "arg": "a", "ins": list{"b", "a"}, "outs": list{"b"}},
		fields{"name": "a", "tool": "a", "arg": "a", "ins": list{"b", "a"}, "outs": list{"a"}})
	wantPlan(t, `[{"a" "t" "" ["p"] ["o"]} {"b" "t" "" ["o"] ["p"]}]`, but(makes("a", "o"), "ins", list{"p"}), but(makes("b", "p"), "ins", list{"o"}))
	wantPlan(t, `[{"a" "t" "" ["o"] ["o"]}]`, but(makes("a", "o"), "ins", list{"o"}))
	wantPlan(t, `[{"a" "t" "" ["i"] ["o"]} {"b" "t" "" ["i"] ["p"]}]`, but(makes("a", "o"), "ins", list{"i"}), but(makes("b", "p"), "ins", list{"i"}))
	wantPlan(t, `[{"a" "t" "" [] ["b"]} {"b" "t" "" [] ["a"]}]`, makes("a", "b"), makes("b", "a"))
	wantPlan(t, `[{"a" "t" "" [] ["o"]} {"aa" "t" "" [] ["oo"]}]`, makes("aa", "oo"), makes("a", "o"))
}

func TestTargetsThatAreEmpty(t *testing.T) {
	const whole = `[{"n" "t" "" [] ["o"]}]`
	wantPlan(t, whole, but(makes("n", "o"), "arg", ""))
	wantPlan(t, whole, but(makes("n", "o"), "ins", list{}))
	wantPlan(t, "2 at 0", fields{})
	for _, name := range []string{"name", "tool", "outs"} {
		wantPlan(t, "2 at 0", lacking(makes("n", "o"), name))
		wantPlan(t, "2 at 1", makes("n", "o"), lacking(makes("m", "p"), name))
	}
	wantPlan(t, "2 at 0", makes("", "o"))
	wantPlan(t, "2 at 0", but(makes("n", "o"), "tool", ""))
	wantPlan(t, "2 at 0", makes("n"))
	for _, texts := range []list{{""}, {"", "p"}, {"p", ""}, {"p", "", "q"}, {"", ""}} {
		wantPlan(t, "2 at 0", makes("n", texts...))
		wantPlan(t, "2 at 0", but(makes("n", "o"), "ins", texts))
	}
}

func TestTargetsWithOtherNames(t *testing.T) {
	for _, name := range []string{"", "Name", "NAME", "name ", " name", "name\x00", "names", "nam", "tools", "in", "out", "inss", "arg ", "args", "a", "z", "from", "if", "_", "ins\n", strings.Repeat("x", impl.MaxText)} {
		for _, x := range []any{nil, "x", list{"x"}, list{}, fields{}} {
			wantPlan(t, "2 at 0", but(makes("n", "o"), name, x))
			wantPlan(t, "2 at 0", but(fields{"name": "n", "tool": "t", "arg": "", "ins": list{}, "outs": list{"o"}}, name, x))
		}
	}
	wantPlan(t, "2 at 0", fields{"a": "n", "b": "t", "c": list{"o"}})
}

// Each of the five names names each small value.
func TestTargetsOfEachValue(t *testing.T) {
	values := append(smallValues(), list{"i", 1}, list{1, "i"}, list{"i", nil}, list{"i", list{"o"}}, list{"i", fields{}}, list{list{"o"}}, fields{"a": "b"}, "\n", "\"", list{"a", "b"}, list{"a", "a"}, list{"b", "a"})
	plans := map[int]int{}
	for _, x := range values {
		for _, name := range []string{"arg", "ins", "name", "outs", "tool"} {
			plans[checkPlan(t, toldOf(but(makes("n", "o"), name, x))).Code]++
		}
		plans[checkPlan(t, toldOf(x)).Code]++
		plans[checkPlan(t, toldOf(makes("n", "o"), x, makes("m", "p"))).Code]++
	}
	if plans[0] < 30 || plans[2] < 1000 || plans[4] == 0 || plans[5] == 0 {
		t.Error(plans)
	}
	for _, x := range []any{nil, true, 1, "n", list{}, list{"n"}, list{fields{"name": "n"}}} {
		wantPlan(t, "2 at 0", x)
		wantPlan(t, "2 at 1", makes("n", "o"), x)
	}
	for _, x := range []any{nil, false, 0, list{}, list{"n"}, fields{}} {
		for _, name := range []string{"name", "tool", "arg"} {
			wantPlan(t, "2 at 0", but(makes("n", "o"), name, x))
		}
	}
	for _, x := range []any{nil, false, 0, "", "o", fields{}, fields{"o": "o"}, list{nil}, list{0}, list{list{"o"}}, list{"o", 1}, list{1, "o"}} {
		for _, name := range []string{"ins", "outs"} {
			wantPlan(t, "2 at 0", but(makes("n", "p"), name, x))
		}
	}
}

// wantNoTarget asks Targets for code 1 at a value that is not valid, wherever it stands.
func wantNoTarget(t *testing.T, what string, v impl.Value) {
	t.Helper()
	for before := range 3 {
		values := []any{makes("a", "o"), makes("b", "p")}[:before]
		for _, after := range [][]any{nil, {v}, {1}, {makes("c", "q")}} {
			p := impl.Targets(toldOf(slices.Concat(values, []any{v}, after)...))
			if p.Code != 1 || p.At != before || len(p.Targets) != 0 {
				t.Errorf("%s, told at %d: %+v", what, before, p)
			}
		}
	}
}

// Values that are nearly targets, each not valid in one way. (All other ways are asked for where those of values are.)
func TestTargetsThatAreNotValid(t *testing.T) {
	whole := fields{"name": "n", "tool": "t", "arg": "a", "ins": list{"i"}, "outs": list{"o"}}
	atoms := given(whole).Atoms
	wantPlan(t, `[{"n" "t" "a" ["i"] ["o"]}]`, whole)
	changed := func(what string, change func(atoms []impl.Atom) []impl.Atom) {
		t.Helper()
		wantNoTarget(t, what, impl.Value{Atoms: change(slices.Clone(atoms))})
	}
	changed("a value without its record", func(a []impl.Atom) []impl.Atom { return a[:len(a)-1] })
	changed("a value without its first name", func(a []impl.Atom) []impl.Atom { return a[1:] })
	changed("a value behind another", func(a []impl.Atom) []impl.Atom { return append([]impl.Atom{{Kind: impl.AtomNone}}, a...) })
	changed("a record with Text", func(a []impl.Atom) []impl.Atom { a[len(a)-1].Text = "x"; return a })
	changed("a record with one kid less", func(a []impl.Atom) []impl.Atom { a[len(a)-1].Kids--; return a })
	changed("a text with N", func(a []impl.Atom) []impl.Atom { a[1].N = 1; return a })
	changed("names that go down", func(a []impl.Atom) []impl.Atom { a[0].Text = "k"; return a })
	changed("a name twice", func(a []impl.Atom) []impl.Atom { a[0].Text = "ins"; return a })
	for _, name := range []string{"name", "tool", "arg", "ins", "outs"} {
		long := any(strings.Repeat("x", impl.MaxText+1))
		if name == "ins" || name == "outs" {
			long = list{"x", long}
		}
		wantNoTarget(t, name+" with a text that is too long", given(but(whole, name, long)))
		wantNoTarget(t, name+" that is too deep", given(but(whole, name, wrapped("x", 0, 12))))
	}
	wantNoTarget(t, "too many ins", given(but(whole, "ins", countedNames(impl.MaxList+1))))
	wantNoTarget(t, "too many outs", given(but(whole, "outs", countedNames(impl.MaxList+1))))
}

func TestTargetsAtTheLimits(t *testing.T) {
	long := strings.Repeat("x", impl.MaxText)
	wantPlan(t, fmt.Sprintf("[{%q %q %q [%q] [%q]}]", long, long, long, long, long), fields{"name": long, "tool": long, "arg": long, "ins": list{long}, "outs": list{long}})
	names := countedNames(impl.MaxList)
	told := []any{but(makes("n", names...), "ins", names)}
	p := impl.Targets(toldOf(told...))
	if p.Code != 0 || len(p.Targets) != 1 || len(p.Targets[0].Ins) != impl.MaxList || len(p.Targets[0].Outs) != impl.MaxList {
		t.Errorf("%.300s", planLine(p))
	}
	checkPlan(t, toldOf(told...))
	// More than a run can tell.
	for i := range 1000 {
		told = append(told, makes(fmt.Sprint("many", 7*i%1000), fmt.Sprint("out", i)))
	}
	if p := checkPlan(t, toldOf(told...)); p.Code != 0 || len(p.Targets) != 1001 {
		t.Errorf("%.300s", planLine(p))
	}
	wantPlan(t, "3 at 1001", append(told, makes("many0", "x"))...)
	wantPlan(t, "4 at 1001", append(told, makes("x", "out0"))...)
}

func TestNamesThatComeTwice(t *testing.T) {
	wantPlan(t, "3 at 1", makes("a", "o"), makes("a", "p"))
	wantPlan(t, "3 at 2", makes("a", "o"), makes("b", "p"), makes("a", "q"))
	wantPlan(t, "3 at 2", makes("b", "o"), makes("a", "p"), makes("a", "q"), makes("b", "r"))
	wantPlan(t, "3 at 1", makes("a", "o"), makes("a", "o"))
	wantPlan(t, "3 at 1", makes("\xff\x00", "o"), makes("\xff\x00", "p"))
	wantPlan(t, `[{"A" "t" "" [] ["p"]} {"a" "t" "" [] ["o"]} {"a " "t" "" [] ["q"]}]`, makes("a", "o"), makes("A", "p"), makes("a ", "q"))
}

func TestOutsThatComeTwice(t *testing.T) {
	wantPlan(t, "4 at 0", makes("a", "o", "o"))
	wantPlan(t, "4 at 0", makes("a", "o", "p", "o"))
	wantPlan(t, "4 at 0", makes("a", "p", "o", "q", "o"))
	wantPlan(t, "4 at 1", makes("a", "o"), makes("b", "o"))
	wantPlan(t, "4 at 1", makes("a", "p", "o"), makes("b", "q", "o"))
	wantPlan(t, "4 at 1", makes("a", "p", "o"), makes("b", "o", "q"))
	wantPlan(t, "4 at 2", makes("a", "o"), makes("b", "p"), makes("c", "o"))
	wantPlan(t, "4 at 2", makes("a", "o"), makes("b", "p"), makes("c", "q", "p"))
	wantPlan(t, "4 at 1", makes("b", "o"), makes("a", "o"))
}

func TestInsThatComeTwice(t *testing.T) {
	wantPlan(t, "5 at 0", but(makes("a", "o"), "ins", list{"i", "i"}))
	wantPlan(t, "5 at 0", but(makes("a", "o"), "ins", list{"i", "k", "i"}))
	wantPlan(t, "5 at 0", but(makes("a", "o"), "ins", list{"o", "o"}))
	wantPlan(t, "5 at 1", but(makes("a", "o"), "ins", list{"i"}), but(makes("b", "p"), "ins", list{"k", "i", "k"}))
}

// The first place with a fault counts, and there the least code.
func TestWhichFaultOfAPlanCounts(t *testing.T) {
	none, twice := impl.Value{}, but(makes("a", "o", "o"), "ins", list{"i", "i"})
	// Two faults at one place.
	wantPlan(t, "2 at 1", makes("a", "o"), but(makes("a", "o", "o"), "x", 1))
	wantPlan(t, "2 at 1", makes("a", "o"), but(twice, "tool", ""))
	wantPlan(t, "2 at 0", but(makes("a", "o", "o"), "ins", list{"i", "i", ""}))
	wantPlan(t, "2 at 0", but(makes("a", "o", "o", ""), "ins", list{"i", "i"}))
	wantPlan(t, "3 at 1", makes("a", "o"), makes("a", "o"))
	wantPlan(t, "3 at 1", makes("a", "o"), makes("a", "p", "p"))
	wantPlan(t, "3 at 1", makes("a", "o"), twice)
	wantPlan(t, "4 at 0", twice)
	wantPlan(t, "4 at 1", makes("b", "o"), but(makes("a", "o"), "ins", list{"i", "i"}))
	wantPlan(t, "1 at 1", makes("a", "o"), given(but(twice, "arg", strings.Repeat("x", impl.MaxText+1))))
	// Faults at two places, the later one with the lesser code.
	for later, lesser := range []any{none, fields{}, makes("a", "q"), makes("c", "q", "q")} {
		wantPlan(t, "5 at 1", makes("a", "o"), but(makes("b", "p"), "ins", list{"i", "i"}), lesser)
		if later < 3 {
			wantPlan(t, "4 at 1", makes("a", "o"), makes("b", "p", "p"), lesser)
		}
		if later < 2 {
			wantPlan(t, "3 at 1", makes("a", "o"), makes("a", "p"), lesser)
		}
	}
	wantPlan(t, "2 at 1", makes("a", "o"), fields{}, none)
	wantPlan(t, "1 at 0", none, fields{}, makes("a", "o"))
	wantPlan(t, "1 at 1", makes("a", "o"), none, none)
	// What stands behind a place is no fault there.
	wantPlan(t, "3 at 2", makes("a", "o"), makes("b", "p"), makes("b", "o"))
	wantPlan(t, "4 at 2", makes("b", "o"), makes("c", "p"), makes("a", "p", "o"))
}

func TestPlanAnswersAreNew(t *testing.T) {
	told := append(toldOf(but(makes("b", "y", "x"), "ins", list{"l", "k"}), but(makes("a", "w", "v"), "ins", list{"l", "k"})), impl.Told{From: "room"})
	before := fmt.Sprint(told)
	const want = `[{"a" "t" "" ["k" "l"] ["v" "w"]} {"b" "t" "" ["k" "l"] ["x" "y"]}]`
	const form = "\"a\": \"t\" \"\"\n  < \"k\"\n  < \"l\"\n  > \"v\"\n  > \"w\"\n\"b\": \"t\" \"\"\n  < \"k\"\n  < \"l\"\n  > \"x\"\n  > \"y\"\n"
	for range 2 {
		p := impl.Targets(told[:2])
		if got := planLine(p); got != want || fmt.Sprint(told) != before {
			t.Fatalf("%s\n%v", got, told)
		}
		if got := impl.FormPlan(p.Targets); got != form || planLine(p) != want {
			t.Fatalf("%s\n%s", got, planLine(p))
		}
		lists := [][]string{p.Targets[0].Ins, p.Targets[0].Outs, p.Targets[1].Ins, p.Targets[1].Outs}
		for i, texts := range lists {
			for k := range texts[:cap(texts)] {
				texts[:cap(texts)][k] = "changed"
			}
			if left := fmt.Sprint(lists[i+1:]); strings.Contains(left, "changed") {
				t.Fatalf("two lists share: %s", left)
			}
		}
		clear(p.Targets[:cap(p.Targets)])
	}
}
