package tests

import (
	"fmt"
	"maps"
	"math/rand/v2"
	"slices"
	"strconv"
	"strings"
	"testing"

	"loop.example/kilnclay/impl"
)

// Sorts of what a drawn E is meant to come to. A function is one of a number.
const (
	aNumber = iota
	aBool
	aText
	aList
	aRecord
	aFunction
	sorts
)

// knownName is a name that is known somewhere, and the sort of what it is meant to be.
type knownName struct {
	name string
	sort int
}

// packDrawer draws packages that mostly run for a while: only now and then an E is not of the sort that fits, or asks for what is not there.
type packDrawer struct {
	drawer
}

func (d packDrawer) among(texts ...string) string {
	return texts[d.IntN(len(texts))]
}

// seldom is the second text now and then.
func (d packDrawer) seldom(often, seldom string) string {
	if d.IntN(60) == 0 {
		return seldom
	}
	return often
}

func (d packDrawer) value() int {
	return d.IntN(aFunction)
}

// some is an E of a sort, in brackets where they could be needed.
func (d packDrawer) some(sort, deep int, known []knownName) string {
	if d.IntN(300) == 0 {
		sort = d.IntN(sorts)
	}
	if names := namesOf(sort, known); len(names) > 0 && d.IntN(3) == 0 {
		return d.among(names...)
	}
	if deep <= 0 {
		return d.plain(sort, known)
	}
	deep--
	inner := func(sort int) string { return d.some(sort, deep, known) }
	name, bound := d.localName(), d.IntN(sorts)
	switch d.IntN(12) {
	case 0:
		return "(if " + inner(aBool) + " then " + inner(sort) + " else " + inner(sort) + ")"
	case 1:
		return "(let " + name + " = " + inner(bound) + " in " + d.some(sort, deep, with(known, name, bound)) + ")"
	case 2:
		params := name + d.among("", " = 0", " = "+inner(bound))
		return "(fn(" + params + ") => " + d.some(sort, deep, with(known, name, bound)) + ")(" + d.among("", name+" = ") + inner(bound) + ")"
	}
	switch sort {
	case aNumber:
		return d.number(inner)
	case aBool:
		return d.bool(inner)
	case aText:
		return d.textual(inner)
	case aList:
		return d.listing(deep, known, inner)
	case aRecord:
		return d.recorded(inner)
	}
	return "(" + d.functional("", deep, known) + ")"
}

// reached is an E inside of another one that is taken out again.
func (d packDrawer) reached(sort int, inner func(int) string) string {
	if d.IntN(2) == 0 {
		return "{a: " + inner(sort) + ", b: " + inner(d.value()) + "}" + d.seldom(d.among(".a", `["a"]`), ".c")
	}
	return "[" + inner(sort) + ", " + inner(sort) + "][" + d.among("0", "1", inner(aNumber)+" % 2", d.seldom("1", "2")) + "]"
}

// namesOf are those of a sort that are not hidden.
func namesOf(sort int, known []knownName) []string {
	var names []string
	for i, k := range known {
		if k.sort == sort && !isKnown(k.name, known[i+1:]) {
			names = append(names, k.name)
		}
	}
	return names
}

func isKnown(name string, known []knownName) bool {
	return slices.ContainsFunc(known, func(k knownName) bool { return k.name == name })
}

func with(known []knownName, name string, sort int) []knownName {
	return append(slices.Clone(known), knownName{name, sort})
}

func (d packDrawer) localName() string {
	return d.seldom(d.among("x", "y", "n", "a0", "b1", "k"), "len")
}

func (d packDrawer) plain(sort int, known []knownName) string {
	switch sort {
	case aNumber:
		return d.seldom(d.among("0", "1", "2", "3", "7"), "9223372036854775807")
	case aBool:
		return d.among("true", "false")
	case aText:
		return d.among(`""`, `"a"`, `"b.c"`, `"a\00"`)
	case aList:
		return d.among("[]", "[1, 2]", "[3, 1, 2]", "[none]", `["a", "b"]`, `files("a")`, "range(120)")
	case aRecord:
		return d.among("{}", "{a: 1}", `{b: "a", a: []}`, "{a: none, c: 2}")
	}
	if names := namesOf(aFunction, known); len(names) > 0 {
		return d.among(names...)
	}
	return d.seldom("(fn(n, k = 2, m = none) => n + k)", d.among("fail", "files", "range"))
}

func (d packDrawer) number(inner func(int) string) string {
	switch d.IntN(8) {
	case 0, 1:
		return "(" + inner(aNumber) + d.among(" + ", " - ", d.seldom(" - ", " * ")) + inner(aNumber) + ")"
	case 2:
		return "(" + inner(aNumber) + d.among(" / ", " % ") + d.seldom(d.among("3", "(-2)"), inner(aNumber)) + ")"
	case 3:
		return "len(" + inner(aText+d.IntN(3)) + ")"
	case 4:
		return "(-" + inner(aNumber) + ")"
	case 5:
		return "int(" + d.among(`"12"`, `"-3"`, "text("+inner(aNumber)+")") + ")"
	case 6:
		return d.reached(aNumber, inner)
	}
	return inner(aFunction) + "(" + d.args(inner) + ")"
}

// args are most often such as fit a function that is drawn.
func (d packDrawer) args(inner func(int) string) string {
	first := inner(aNumber)
	more := d.among("", "", ", k = "+inner(aNumber), ", "+inner(aNumber), ", m = "+inner(aFunction))
	return d.seldom(first+more, d.among("", "n = "+first, first+", n = 1", first+", z = 1", first+", 1, 2, 3"))
}

func (d packDrawer) bool(inner func(int) string) string {
	sort := d.IntN(aRecord)
	switch d.IntN(8) {
	case 0:
		return "(not " + inner(aBool) + ")"
	case 1, 2:
		return "(" + inner(aBool) + d.among(" or ", " and ") + inner(aBool) + ")"
	case 3:
		return "(" + inner(d.value()) + d.among(" == ", " != ") + inner(d.value()) + ")"
	case 4:
		return "(" + inner(sort) + d.among(" < ", " <= ", " > ", " >= ") + inner(sort) + ")"
	case 5:
		return "(" + inner(aList) + " has " + inner(d.value()) + ")"
	case 6:
		return d.reached(aBool, inner)
	}
	return "begins(" + inner(aText) + ", " + inner(aText) + ")"
}

func (d packDrawer) textual(inner func(int) string) string {
	switch d.IntN(7) {
	case 0, 1:
		return "(" + inner(aText) + " + " + inner(aText) + ")"
	case 2:
		return "text(" + inner(d.value()) + ")"
	case 3:
		return "join(split(" + inner(aText) + `, "."), ` + inner(aText) + ")"
	case 4:
		return "(" + inner(aText) + ` + "xyz")[` + d.seldom(d.among("0", "1", "2"), inner(aNumber)) + "]"
	case 5:
		return d.reached(aText, inner)
	}
	return "cut(" + inner(aText) + ` + "xyz", 1, 3)`
}

func (d packDrawer) listing(deep int, known []knownName, inner func(int) string) string {
	switch d.IntN(9) {
	case 0, 1, 2:
		return d.eachOf(deep, known, inner)
	case 3:
		return "[" + inner(d.value()) + ", " + inner(d.value()) + "]"
	case 4:
		return "(" + inner(aList) + " + " + inner(aList) + ")"
	case 5:
		return d.among("sorted(", "unique(") + inner(aList) + ")"
	case 6:
		return "range(" + d.among("0", "5", inner(aNumber)+" % 9", d.seldom("30", d.among("200", "201", inner(aNumber)))) + ")"
	case 7:
		return d.reached(aList, inner)
	}
	return "files(" + d.among(`"a"`, `"b"`, `"a."`, `"zz"`, d.seldom(`"c"`, inner(aText))) + ")"
}

// eachOf goes through a list of which the sort of the items is known.
func (d packDrawer) eachOf(deep int, known []knownName, inner func(int) string) string {
	name, through, sort := d.localName(), "range("+d.seldom(inner(aNumber)+" % 9", "90")+")", aNumber
	switch d.IntN(4) {
	case 0:
		through, sort = d.among("keys("+inner(aRecord)+")", "split("+inner(aText)+`, "a")`, `files("b")`), aText
	case 1:
		through, sort = "["+inner(aList)+", "+inner(aList)+"]", aList
	}
	inside := with(known, name, sort)
	wanted := d.among("", " if "+d.some(aBool, deep, inside))
	return "[" + d.some(d.value(), deep, inside) + " for " + name + " in " + through + wanted + "]"
}

func (d packDrawer) recorded(inner func(int) string) string {
	switch d.IntN(5) {
	case 0:
		return "{a: " + inner(aNumber) + ", " + d.among("c", `"d e"`) + ": " + inner(d.value()) + "}"
	case 1:
		return "(" + inner(aRecord) + " + " + inner(aRecord) + ")"
	case 2:
		return "record([[" + inner(aText) + ", " + inner(d.value()) + `], ["q", 1]])`
	case 3:
		return d.reached(aRecord, inner)
	}
	return "without(" + inner(aRecord) + ", " + d.among(`"a"`, `"zz"`, inner(aText)) + ")"
}

// functional is a def of this name, or a fn. It may call itself with one less, so that it ends.
func (d packDrawer) functional(name string, deep int, known []knownName) string {
	params := "n, k = " + d.some(aNumber, deep-1, with(known, "n", aNumber))
	known = with(with(known, "n", aNumber), "k", aNumber)
	if d.IntN(3) > 0 {
		params += ", m = " + d.some(aFunction, deep-1, known)
		known = with(known, "m", aFunction)
	}
	body := d.some(aNumber, deep, known)
	if name == "" {
		return "fn(" + params + ") => " + body
	}
	if d.IntN(2) == 0 {
		body = "if n " + d.seldom("<", ">") + " 1 or n > 40 then " + body + " else " + name + "(n - 1) + " + d.some(aNumber, 1, known)
	}
	return "def " + name + "(" + params + ") = " + body + ";"
}

// pack draws a package of so many names of its own, which it tells, too; exports are those of other packages.
func (d packDrawer) pack(others []string, exports map[string][]knownName, size int) (string, []knownName) {
	var lines []string
	var made, known []knownName
	for _, other := range others {
		var names []string
		for _, k := range exports[other] {
			if d.IntN(2) == 0 && !isKnown(k.name, known) {
				names, known = append(names, k.name), append(known, k)
			}
		}
		if names = append(names, d.seldom("", "gone")); names[len(names)-1] == "" {
			names = names[:len(names)-1]
		}
		if len(names) > 0 {
			lines = append(lines, "load \""+other+"\": "+strings.Join(names, ", ")+";")
		}
	}
	first := d.IntN(20)
	for i := range size {
		k := knownName{d.seldom("", "_") + string("abcdefgh"[i]) + strconv.Itoa(first), d.IntN(sorts)}
		if !isKnown(k.name, known) {
			made = append(made, k)
		}
	}
	all := slices.Concat(known, made)
	for _, k := range made {
		if k.sort == aFunction && d.IntN(2) == 0 {
			lines = append(lines, d.functional(k.name, 3, append(known, k)))
		} else if d.IntN(25) == 0 {
			// It may ask for a name ahead of its statement.
			lines = append(lines, "let "+k.name+" = "+d.some(k.sort, 4, all)+";")
		} else {
			lines = append(lines, "let "+k.name+" = "+d.some(k.sort, 4, known)+";")
		}
		known = append(known, k)
		if d.IntN(2) == 0 {
			lines = append(lines, "emit "+d.some(aRecord, 3, known)+";")
		}
	}
	return strings.Join(lines, "\n") + "\n", made
}

// world draws one, with packages that load from those before them, and seldom from others.
func (d packDrawer) world() impl.World {
	texts, exports := map[string]string{}, map[string][]knownName{}
	names := []string{"lib/a", "b-1", "c.", "m"}
	for i, name := range names {
		var others []string
		for _, other := range names[:i] {
			if d.IntN(3) > 0 {
				others = append(others, other)
			}
		}
		if d.IntN(30) == 0 {
			others = append(others, d.among("gone", "m", "b-1"))
			exports["gone"] = []knownName{{"x1", aNumber}}
		}
		if d.IntN(80) == 0 {
			texts[name] = d.among("let x = ;", "let x = y;", "\x00")
		} else {
			texts[name], exports[name] = d.pack(others, exports, 2+d.IntN(4))
		}
		if len(texts[name]) > impl.MaxSrc {
			texts[name] = ""
		}
	}
	var looks []string
	for _, look := range []string{"a", "a.c", "ab", "b.c", "b.h", "c"} {
		if d.IntN(2) == 0 {
			looks = append(looks, look)
		}
	}
	return worldOf(looks, texts)
}

func worldOf(names []string, texts map[string]string) impl.World {
	w := impl.World{Names: names}
	for _, name := range slices.Sorted(maps.Keys(texts)) {
		w.Files = append(w.Files, impl.File{Name: name, Text: texts[name]})
	}
	return w
}

func textsOf(w impl.World) map[string]string {
	texts := map[string]string{}
	for _, file := range w.Files {
		texts[file.Name] = file.Text
	}
	return texts
}

// withText is a world in which one package has another text.
func withText(w impl.World, name, text string) impl.World {
	texts := textsOf(w)
	texts[name] = text
	return worldOf(w.Names, texts)
}

// eachDrawnWorld hands on worlds that are drawn, the same each time.
func eachDrawnWorld(seed uint64, size int, do func(d packDrawer, w impl.World)) {
	d := packDrawer{drawer{rand.New(rand.NewPCG(7, seed))}}
	for range size {
		do(d, d.world())
	}
}

func TestRunsReadASecondTime(t *testing.T) {
	ends, long := map[string]int{}, 0
	eachDrawnWorld(1, 1000, func(d packDrawer, w impl.World) {
		for _, name := range []string{"m", "c."} {
			out := impl.Run(w, name)
			if got, want := whole(out), whole(secondRun(w, name)); got != want {
				t.Fatalf("%s\ngot  %s\nwant %s", worldText(w), got, want)
			}
			ends[fmt.Sprint(out.Code, out.Word)]++
			if out.Code == 0 && out.Steps > 100 && len(out.Told) > 2 {
				long++
			}
		}
	})
	for _, end := range strings.Fields("0 2 3 4args 4deep 4divide 4early 4key 4large 4name 4range 4type") {
		if ends[end] < 3 {
			t.Errorf("%d of %s", ends[end], end)
		}
	}
	if ends["0"] < 500 || long < 100 {
		t.Errorf("%v, %d of them long", ends, long)
	}
}

// Trees that are drawn without regard to sorts mostly end soon, but in every way.
func TestDrawnTreesRun(t *testing.T) {
	draw := drawer{rand.New(rand.NewPCG(7, 9))}
	run := 0
	for range 8000 {
		tree := draw.renamedAtWill(file(draw.statement(), draw.statement(), draw.statement()))
		src := impl.Print(tree)
		if src == "" || impl.Check(tree).Code != 0 {
			continue
		}
		run++
		w := worldOf(threeNames(), map[string]string{"m": src, "lib/a": "let a = 1; let b = {a: [1]};", "lib/b": "def a(b = 1) = b; let b = len; let c = true;"})
		if got, want := whole(impl.Run(w, "m")), whole(secondRun(w, "m")); got != want {
			t.Fatalf("%s\ngot  %s\nwant %s", src, got, want)
		}
	}
	if run < 300 {
		t.Error(run)
	}
}

// filled puts each of some E into each hole of a form. The words with which some of them end the run tell the holes apart.
func filled(form string, hole int, do func(src string)) {
	if !strings.Contains(form, "?") {
		do(form)
		return
	}
	word := strconv.Itoa(hole)
	for _, e := range []string{"1", "true", `"a"`, "[2]", "{a: 3}", "len", "f", "(fn() => none)", `fail("` + word + `")`} {
		filled(strings.Replace(form, "?", e, 1), hole+1, do)
	}
}

func TestEveryOrderOfLooks(t *testing.T) {
	for _, form := range []string{
		"?", "not ?", "-?", "? or ?", "? and ?", "? == ?", "? < ?", "? has ?", "? + ?", "? / ?", "[?, ?]", "[?, ?, ?]", "{b: ?, a: ?}",
		"?[?]", "?.a", "if ? then ? else ?", "let x = ? in ?", "let x = ? in [x, ?]", "[? for x in ?]", "[? for x in ? if ?]", "[x for x in [?, ?] if x]",
		"?()", "?(?)", "?(?, ?)", "?(a = ?)", "?(?, b = ?)", "f(?, b = ?)", "f(b = ?, a = ?)", "f(?, ?, ?)", "f(?, a = ?)", "f(?, z = ?)", "f(b = ?)",
		"len(?, s = ?)", "len(?, ?)", "files(?)", "fail(?)", "join(?, ?)", "cut(?, ?, ?)",
		"(fn(a, b = ?, c = ?) => [a, b, c])(?)", "(fn(a = ?, b = ?) => [a, b])(b = ?)", "(fn(a = ?) => a)(?, ?)", "(fn(a) => a)(?)(?)", "(fn(a) => ?)(?)",
	} {
		filled(form, 0, func(e string) {
			w := worldOf(threeNames(), map[string]string{"m": "def f(a, b = fail(\"default\")) = if a == 1 then b else a; let v = " + e + "; emit {v: v};"})
			if got, want := whole(impl.Run(w, "m")), whole(secondRun(w, "m")); got != want {
				t.Errorf("%s\ngot  %s\nwant %s", e, got, want)
			}
		})
	}
}

func worldText(w impl.World) string {
	text := fmt.Sprintf("%q\n", w.Names)
	for _, file := range w.Files {
		text += "-- " + file.Name + "\n" + file.Text
	}
	return text
}

// whole is all of an Outcome in a line.
func whole(o impl.Outcome) string {
	return fmt.Sprintf("%s read %q asked %q", story(o), o.Read, o.Asked)
}

// story is what is told or how a run ended, and its steps.
func story(o impl.Outcome) string {
	text := map[int]string{0: "", 1: "not valid", 2: "missing", 3: "unfit"}[o.Code]
	if o.Code == 4 || o.Word != "" {
		text += "!" + o.Word
	}
	if o.At != "" {
		text += " at " + o.At
	}
	for _, called := range o.Trace {
		text += " < " + called
	}
	for _, told := range o.Told {
		text += told.From + impl.FormValue(told.Value) + " "
	}
	return strings.TrimSpace(fmt.Sprint(strings.TrimSpace(text), " in ", o.Steps))
}
