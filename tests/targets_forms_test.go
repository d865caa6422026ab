package tests

import (
	"math/rand/v2"
	"regexp"
	"slices"
	"strconv"
	"strings"
	"testing"

	"loop.example/kilnclay/impl"
)

// quotedText is a text in quotes, fullText one that is not empty.
const (
	quotedByte = `(?:[ !#-\[\]-~]|\\[0-9a-f]{2})`
	quotedText = `"` + quotedByte + `*"`
	fullText   = `"` + quotedByte + `+"`
)

// A second reading of chapter 9, from the forms of the values, in which names are ascending.
var (
	targetForm  = regexp.MustCompile(`^\{(?:arg: (` + quotedText + `), )?(?:ins: \[((?:` + fullText + `(?:, ` + fullText + `)*)?)\], )?name: (` + fullText + `), outs: \[(` + fullText + `(?:, ` + fullText + `)*)\], tool: (` + fullText + `)\}$`)
	quotedTexts = regexp.MustCompile(quotedText)
	quotedBytes = regexp.MustCompile(`\\..`)
)

// unquoted is what a text in quotes stands for.
func unquoted(text string) string {
	if text == "" {
		return ""
	}
	return quotedBytes.ReplaceAllStringFunc(text[1:len(text)-1], func(b string) string {
		n, _ := strconv.ParseUint(b[1:], 16, 8)
		return string([]byte{byte(n)})
	})
}

// unquotedRow is the texts of a row, as they stand there.
func unquotedRow(row string) []string {
	texts := []string{}
	for _, text := range quotedTexts.FindAllString(row, -1) {
		texts = append(texts, unquoted(text))
	}
	return texts
}

func comesAgain(texts []string, text string) bool {
	first := slices.Index(texts, text)
	return slices.Contains(texts[first+1:], text)
}

// secondTargets looks at each place for its least code, with all that the places up to there have.
func secondTargets(told []impl.Told) impl.Plan {
	var plan impl.Plan
	var names, outs []string
	for at, one := range told {
		form := impl.FormValue(one.Value)
		parts := targetForm.FindStringSubmatch(form)
		if form == "" || parts == nil {
			return impl.Plan{Code: map[bool]int{true: 1, false: 2}[form == ""], At: at}
		}
		target := impl.Target{Name: unquoted(parts[3]), Tool: unquoted(parts[5]), Arg: unquoted(parts[1]), Ins: unquotedRow(parts[2]), Outs: unquotedRow(parts[4])}
		names, outs = append(names, target.Name), append(outs, target.Outs...)
		again := map[int]bool{3: comesAgain(names, target.Name)}
		for _, out := range target.Outs {
			again[4] = again[4] || comesAgain(outs, out)
		}
		for _, in := range target.Ins {
			again[5] = again[5] || comesAgain(target.Ins, in)
		}
		for code := 3; code <= 5; code++ {
			if again[code] {
				return impl.Plan{Code: code, At: at}
			}
		}
		slices.Sort(target.Ins)
		slices.Sort(target.Outs)
		place, _ := slices.BinarySearchFunc(plan.Targets, target.Name, func(t impl.Target, name string) int { return strings.Compare(t.Name, name) })
		plan.Targets = slices.Insert(plan.Targets, place, target)
	}
	return plan
}

// planIn reads targets from the form that FormPlan gives them.
func planIn(form string) ([]impl.Target, bool) {
	var targets []impl.Target
	for line := range strings.Lines(form) {
		texts := unquotedRow(line)
		switch {
		case regexp.MustCompile(`^` + quotedText + `: ` + quotedText + ` ` + quotedText + "\n$").MatchString(line):
			targets = append(targets, impl.Target{Name: texts[0], Tool: texts[1], Arg: texts[2]})
			continue
		case len(targets) == 0:
			return nil, false
		}
		last := &targets[len(targets)-1]
		switch {
		case regexp.MustCompile(`^  < `+quotedText+"\n$").MatchString(line) && len(last.Outs) == 0:
			last.Ins = append(last.Ins, texts[0])
		case regexp.MustCompile(`^  > ` + quotedText + "\n$").MatchString(line):
			last.Outs = append(last.Outs, texts[0])
		default:
			return nil, false
		}
	}
	return targets, true
}

func sameTargets(a, b []impl.Target) bool {
	return slices.EqualFunc(a, b, func(a, b impl.Target) bool {
		return a.Name == b.Name && a.Tool == b.Tool && a.Arg == b.Arg && slices.Equal(a.Ins, b.Ins) && slices.Equal(a.Outs, b.Outs)
	})
}

// checkForm asks for a form from which just these targets can be read.
func checkForm(t *testing.T, targets []impl.Target) string {
	t.Helper()
	form := impl.FormPlan(targets)
	if back, ok := planIn(form); !ok || !sameTargets(back, targets) {
		t.Fatalf("%.300q\nis written as\n%.300s", targets, form)
	}
	return form
}

// Promise 12. checkPlan holds Targets against the second reading, and a plan with code 0 against the promise.
func checkPlan(t *testing.T, told []impl.Told) impl.Plan {
	t.Helper()
	got, want := impl.Targets(told), secondTargets(told)
	if got.Code != want.Code || got.At != want.At || !sameTargets(got.Targets, want.Targets) {
		t.Fatalf("%.300s\ngot  %.300s\nwant %.300s", toldText(told), planLine(got), planLine(want))
	}
	outs := map[string]bool{}
	for i, target := range got.Targets {
		if i > 0 && target.Name <= got.Targets[i-1].Name {
			t.Errorf("%q behind %q", target.Name, got.Targets[i-1].Name)
		}
		for _, out := range target.Outs {
			if outs[out] {
				t.Errorf("%q is made twice", out)
			}
			outs[out] = true
		}
	}
	checkForm(t, got.Targets)
	return got
}

// Each row of three places, each with each of some faults or none.
func TestEveryPlanOfThree(t *testing.T) {
	places := []any{impl.Value{}, fields{}, but(makes("a", "o"), "outs", list{"o", "o", ""})}
	for _, name := range []string{"a", "b", "c"} {
		for _, outs := range []list{{"o"}, {"p"}, {"q", "p"}, {"o", "q", "o"}} {
			places = append(places, makes(name, outs...), but(makes(name, outs...), "ins", list{"p", "p"}))
		}
	}
	codes := map[int]int{}
	for _, first := range places {
		for _, second := range places {
			codes[checkPlan(t, toldOf(first, second)).Code]++
			for _, third := range places {
				codes[checkPlan(t, toldOf(first, second, third)).Code]++
			}
		}
	}
	for code := range 6 {
		if codes[code] < 12 {
			t.Error(codes)
		}
	}
}

// targetText is mostly a short one, which may come again; seldom empty or one that has to be written in quotes.
func (d drawer) targetText() string {
	if d.IntN(12) == 0 {
		return d.text()
	}
	return string("abcdefghij"[d.IntN(10)])
}

func (d drawer) targetTexts(least int, more string) list {
	var texts list
	for range least + d.IntN(3) {
		texts = append(texts, d.targetText()+more)
	}
	return texts
}

// target draws a record, most of them targets.
func (d drawer) target() any {
	record := fields{"name": d.targetText() + []string{"", "x"}[d.IntN(2)], "tool": d.targetText(), "outs": d.targetTexts(1, d.targetText())}
	if d.IntN(2) == 0 {
		record["arg"] = d.targetText()
	}
	if d.IntN(2) == 0 {
		record["ins"] = d.targetTexts(0, "")
	}
	switch d.IntN(60) {
	case 0:
		record[d.text()] = d.value(1)
	case 1:
		record[[]string{"name", "tool", "arg", "ins", "outs"}[d.IntN(5)]] = d.value(2)
	case 2:
		return d.value(2)
	case 3:
		return impl.Value{Atoms: given(record).Atoms[1:]}
	}
	return record
}

func TestDrawnPlans(t *testing.T) {
	draw := drawer{rand.New(rand.NewPCG(9, 1))}
	codes, byForm, large := map[int]int{}, map[string][]impl.Target{}, 0
	for range 6000 {
		var values []any
		for range draw.IntN(6) {
			values = append(values, draw.target())
		}
		told := toldOf(values...)
		plan := checkPlan(t, told)
		codes[plan.Code]++
		if plan.Code != 0 {
			continue
		}
		if len(plan.Targets) > 2 {
			large++
		}
		// The order of what is told is no matter, if nothing is wrong.
		draw.Shuffle(len(told), func(i, k int) { told[i], told[k] = told[k], told[i] })
		if other := impl.Targets(told); other.Code != 0 || !sameTargets(other.Targets, plan.Targets) {
			t.Errorf("%s\n%s", planLine(plan), planLine(other))
		}
		form := impl.FormPlan(plan.Targets)
		if other, known := byForm[form]; known && !sameTargets(other, plan.Targets) {
			t.Errorf("%q and %q are both written as\n%s", other, plan.Targets, form)
		}
		byForm[form] = plan.Targets
	}
	for code := range 6 {
		if codes[code] < 50 {
			t.Error(codes)
		}
	}
	if large < 300 {
		t.Error(large)
	}
}

func TestFormsOfPlans(t *testing.T) {
	for form, targets := range map[string][]impl.Target{
		"":                  nil,
		"\"\": \"\" \"\"\n": {{}},
		"\"n\": \"t\" \"a\"\n  < \"i\"\n  > \"o\"\n":                                                         {{Name: "n", Tool: "t", Arg: "a", Ins: []string{"i"}, Outs: []string{"o"}}},
		"\"n\": \"t\" \"\"\n  < \"k\"\n  < \"i\"\n  < \"k\"\n  > \"\"\n  > \"p\"\n":                          {{Name: "n", Tool: "t", Ins: []string{"k", "i", "k"}, Outs: []string{"", "p"}}},
		"\"b\": \"t\" \"\"\n  > \"o\"\n\"a\": \"t\" \"\"\n  < \"o\"\n\"a\": \"\" \"u\"\n":                    {{Name: "b", Tool: "t", Outs: []string{"o"}}, {Name: "a", Tool: "t", Ins: []string{"o"}}, {Name: "a", Arg: "u"}},
		"\"a\\22: \\22b\": \"\\0a  > \\22c\\22\" \"\\5c22\"\n  < \" \\09\\7f\\80\\ff~\"\n  > \"'<>&\\00\"\n": {{Name: `a": "b`, Tool: "\n  > \"c\"", Arg: `\22`, Ins: []string{" \t\x7f\x80\xff~"}, Outs: []string{"'<>&\x00"}}},
	} {
		if got := checkForm(t, targets); got != form {
			t.Errorf("%q:\ngot  %q\nwant %q", targets, got, form)
		}
	}
	if got := impl.FormPlan([]impl.Target{}); got != "" {
		t.Errorf("%q", got)
	}
	long := strings.Repeat("\n", 2*impl.MaxText)
	checkForm(t, []impl.Target{{Name: long, Tool: long, Arg: long, Ins: slices.Repeat([]string{long}, 300), Outs: slices.Repeat([]string{"x"}, 300)}})
}

// Each byte in each place of a target.
func TestFormsOfEachByte(t *testing.T) {
	for b := range 256 {
		text := "x" + string([]byte{byte(b)}) + "1"
		q := inQuotes(text)
		got := checkForm(t, []impl.Target{{Name: text, Tool: text, Arg: text, Ins: []string{text}, Outs: []string{text}}})
		if want := q + ": " + q + " " + q + "\n  < " + q + "\n  > " + q + "\n"; got != want {
			t.Errorf("got %q, want %q", got, want)
		}
	}
}

// Promise 12. Targets that differ in one place, and the ways in which texts could be taken for what stands around them.
func TestFormsTellPlansApart(t *testing.T) {
	first := []impl.Target{{Name: "a", Tool: "t", Arg: "x", Ins: []string{"i", "k"}, Outs: []string{"o", "p"}}, {Name: "b", Tool: "t", Outs: []string{"q"}}}
	forms := map[string]int{}
	differ := func(change func(targets []impl.Target) []impl.Target) {
		var other []impl.Target
		for _, target := range first {
			target.Ins, target.Outs = slices.Clone(target.Ins), slices.Clone(target.Outs)
			other = append(other, target)
		}
		forms[checkForm(t, change(other))]++
	}
	changes := []func(target *impl.Target){
		func(target *impl.Target) {},
		func(target *impl.Target) { target.Name += " " },
		func(target *impl.Target) { target.Tool += " " },
		func(target *impl.Target) { target.Arg += " " },
		func(target *impl.Target) { target.Name += `": "` },
		func(target *impl.Target) { target.Tool += `" "` },
		func(target *impl.Target) { target.Arg += "\"\n  < \"i" },
		func(target *impl.Target) { target.Arg += `"\0a  < "i` },
		func(target *impl.Target) { target.Ins = append(target.Ins, "z") },
		func(target *impl.Target) { target.Outs = append(target.Outs, "z") },
		func(target *impl.Target) { target.Ins = append([]string{"a"}, target.Ins...) },
		func(target *impl.Target) { target.Outs = append([]string{"a"}, target.Outs...) },
		func(target *impl.Target) { target.Outs[0] += "z" },
		func(target *impl.Target) { target.Outs[0] += "\"\n  > \"z" },
		func(target *impl.Target) { target.Ins, target.Outs = target.Outs, target.Ins },
		func(target *impl.Target) { target.Outs = nil },
	}
	for i := range changes {
		differ(func(targets []impl.Target) []impl.Target { changes[i](&targets[0]); return targets })
		if i > 0 {
			differ(func(targets []impl.Target) []impl.Target { changes[i](&targets[1]); return targets })
		}
	}
	differ(func(targets []impl.Target) []impl.Target { targets[0].Ins[1] = "l"; return targets })
	differ(func(targets []impl.Target) []impl.Target { targets[0].Ins = targets[0].Ins[:1]; return targets })
	differ(func(targets []impl.Target) []impl.Target { return targets[:1] })
	differ(func(targets []impl.Target) []impl.Target { return targets[1:] })
	differ(func(targets []impl.Target) []impl.Target { return append(targets, impl.Target{}) })
	differ(func(targets []impl.Target) []impl.Target { slices.Reverse(targets); return targets })
	if want := 2*len(changes) - 1 + 6; len(forms) != want {
		t.Errorf("%d forms of %d plans", len(forms), want)
	}
}
