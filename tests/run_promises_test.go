package tests

import (
	"fmt"
	"slices"
	"strings"
	"testing"

	"loop.example/kilnclay/impl"
)

// changedElsewhere is a world that differs from another one in what a run of this Outcome did not look at.
func (d packDrawer) changedElsewhere(w impl.World, out impl.Outcome) impl.World {
	texts := textsOf(w)
	for _, name := range []string{"lib/a", "b-1", "c.", "m", "gone", "new", "-", "zz"} {
		if slices.Contains(out.Read, name) {
			continue
		}
		switch d.IntN(4) {
		case 0:
			delete(texts, name)
		case 1:
			texts[name] = d.among("", "emit {};", "let x = ;", `load "m": a;`, "\x00")
		case 2:
			texts[name] += "\nemit {changed: 1};"
			if len(texts[name]) > impl.MaxSrc {
				delete(texts, name)
			}
		}
	}
	var names []string
	for _, name := range []string{"a", "a.b", "a.c", "ab", "b", "b.c", "b.h", "c", "q", "zz", "\xff"} {
		asked := slices.ContainsFunc(out.Asked, func(beginning string) bool { return strings.HasPrefix(name, beginning) })
		if asked && slices.Contains(w.Names, name) || !asked && d.IntN(2) == 0 {
			names = append(names, name)
		}
	}
	return worldOf(names, texts)
}

// Promise 7.
func TestRunHangsOnWhatItReads(t *testing.T) {
	otherFiles, otherNames := 0, 0
	check := func(d packDrawer, w impl.World, name string) {
		out := impl.Run(w, name)
		for range 4 {
			other := d.changedElsewhere(w, out)
			if !impl.ValidWorld(other) {
				t.Fatalf("not valid: %s", worldText(other))
			}
			if got, want := whole(impl.Run(other, name)), whole(out); got != want {
				t.Fatalf("%s\n%s\ngot  %s\nwant %s", worldText(w), worldText(other), got, want)
			}
			if !slices.Equal(other.Files, w.Files) {
				otherFiles++
			}
			if len(out.Asked) > 0 && !slices.Equal(other.Names, w.Names) {
				otherNames++
			}
		}
	}
	eachDrawnWorld(2, 300, func(d packDrawer, w impl.World) {
		for _, name := range []string{"m", "c.", "lib/a"} {
			check(d, w, name)
		}
	})
	if otherFiles < 1000 || otherNames < 500 {
		t.Errorf("%d, %d", otherFiles, otherNames)
	}
}

// Promise 7, where what is looked at is not there, ends the run or tells nothing.
func TestRunHangsOnNothingElse(t *testing.T) {
	world := func(names string, files ...string) impl.World {
		texts := map[string]string{}
		for i := 0; i < len(files); i += 2 {
			texts[files[i]] = files[i+1]
		}
		return worldOf(strings.Fields(names), texts)
	}
	for _, pair := range [][2]impl.World{
		{world("", "m", "emit {v: 1};"), world("a b c", "a", "broken", "m", "emit {v: 1};", "z", "emit {};")},
		{world("", "m", `load "gone": x;`), world("a", "gon", "let x = 1;", "gone2", "let x = 1;", "m", `load "gone": x;`)},
		{world("a.c b.c", "m", `emit {v: files("a")};`), world("A a.c b c.c", "m", `emit {v: files("a")};`)},
		{world("", "m", `emit {v: files("a")};`), world("A b", "m", `emit {v: files("a")};`)},
		{world("ab", "m", `emit {v: [files("a"), files("ab")]};`), world("ab b", "m", `emit {v: [files("a"), files("ab")]};`)},
		{world("", "a", "let x = 1;", "m", `let y = 1 / 0; load "a": x;`), world("", "m", `let y = 1 / 0; load "a": x;`)},
		{world("", "a", "let x = 1;", "m", `emit 1; load "a": x;`), world("q", "a", "(", "m", `emit 1; load "a": x;`)},
		{world("a", "m", `let x = false and files("a"); emit {v: x};`), world("", "m", `let x = false and files("a"); emit {v: x};`)},
	} {
		if got, want := whole(impl.Run(pair[1], "m")), whole(impl.Run(pair[0], "m")); got != want {
			t.Errorf("%s\n%s\ngot  %s\nwant %s", worldText(pair[0]), worldText(pair[1]), got, want)
		}
	}
	// What it does look at may change the Outcome.
	for _, pair := range [][2]impl.World{
		{world("a", "m", `emit {v: files("a")};`), world("a ab", "m", `emit {v: files("a")};`)},
		{world("a", "m", `emit {v: files("")};`), world("", "m", `emit {v: files("")};`)},
		{world("", "m", `load "gone": x;`), world("", "gone", "let x = 1;", "m", `load "gone": x;`)},
		{world("", "a", "let x = 1;", "m", `load "a": x; emit {v: x};`), world("", "a", "let x = 2;", "m", `load "a": x; emit {v: x};`)},
	} {
		if got := whole(impl.Run(pair[1], "m")); got == whole(impl.Run(pair[0], "m")) {
			t.Errorf("%s\n%s", worldText(pair[1]), got)
		}
	}
}

// Promise 8.
func TestRunsEnd(t *testing.T) {
	check := func(w impl.World) {
		t.Helper()
		out := impl.Run(w, "m")
		if out.Steps < 0 || out.Steps > 5000 || len(out.Told) > 60 || len(out.Trace) > 30 || out.Code != 0 && len(out.Told) > 0 {
			t.Errorf("%s\n%s", worldText(w), whole(out))
		}
		if out.Code == 0 && (out.Word != "" || out.At != "" || len(out.Trace) > 0) || out.Code != 4 && out.Word != "" {
			t.Errorf("%s\n%s", worldText(w), whole(out))
		}
		for _, told := range out.Told {
			atoms := told.Value.Atoms
			if !impl.ValidValue(told.Value) || atoms[len(atoms)-1].Kind != impl.AtomRecord || !slices.Contains(out.Read, told.From) {
				t.Errorf("%s\n%s", worldText(w), whole(out))
			}
		}
	}
	eachDrawnWorld(3, 400, func(_ packDrawer, w impl.World) { check(w) })
	big := `let t = "` + strings.Repeat("x", 1000) + `"; let l = [t + cut(text(n), 0, 0) for n in range(200)]; `
	for _, src := range []string{
		"def f(n) = f(n + 1); emit {v: f(0)};",
		"def f(n) = [f(n) for x in range(200)]; emit {v: f(0)};",
		"def f(n) = if n == 29 then 0 else f(n + 1) + f(n + 1); emit {v: f(0)};",
		"let l = range(200); emit {v: [[x for x in l] for y in l]};",
		"def f(g) = g(g); emit {v: f(f)};",
		"let y = fn(x) => x(x); let z = y(y);",
		"let l = range(200); let a = [len([x for x in l]) for y in l];",
		"let l = [l2 for l2 in range(200)]; let a = [len(sorted(l + [])) + len(unique(l)) for y in l];",
		big + "let a = [l == [x for x in l] for y in range(200)];",
		big + "let a = [len(unique(l)) for y in range(200)];",
		big + "let a = [l has 1 for y in range(200)];",
		strings.Repeat("emit {a: [1, 2, 3]};", 60),
	} {
		check(worldOf(nil, map[string]string{"m": src}))
	}
}

// Promise 4: a name that is changed inside changes nothing of the Outcome.
func TestRenamedRunsTheSame(t *testing.T) {
	renamed := 0
	eachDrawnWorld(4, 300, func(d packDrawer, w impl.World) {
		want := whole(impl.Run(w, "m"))
		for name, src := range textsOf(w) {
			tree, fault := impl.Parse(src)
			if fault.Code != 0 {
				continue
			}
			locals := impl.Locals(tree)
			d.Shuffle(len(locals), func(i, k int) { locals[i], locals[k] = locals[k], locals[i] })
			for _, at := range locals[:min(5, len(locals))] {
				other, code := impl.Rename(tree, at, "other_name")
				if code != 0 {
					t.Fatalf("%q: %d", src, code)
				}
				text := impl.Print(other)
				if text == "" {
					continue
				}
				renamed++
				if got := whole(impl.Run(withText(w, name, text), "m")); got != want {
					t.Fatalf("%s\n%s: %s\ngot  %s\nwant %s", worldText(w), name, text, got, want)
				}
			}
		}
	})
	if renamed < 2000 {
		t.Error(renamed)
	}
	for _, names := range [][2]string{{"x", "y"}, {"len", "x"}, {"a", "text"}} {
		src := strings.NewReplacer("P", names[0], "Q", names[1]).Replace("let k = 2; def f(n) = let P = n in [P + Q for Q in [P, k] if P < 9]; emit {v: f(3), w: [f(P) for P in [1]]}; emit {v: f(\"a\")};")
		tree := parsed(t, src)
		want := whole(impl.Run(worldOf(nil, map[string]string{"m": src}), "m"))
		if len(impl.Locals(tree)) != 3 || !strings.HasPrefix(want, "!type at m < m.f in ") {
			t.Fatalf("%s", want)
		}
		for _, at := range impl.Locals(tree) {
			other, _ := impl.Rename(tree, at, "z")
			if got := whole(impl.Run(worldOf(nil, map[string]string{"m": impl.Print(other)}), "m")); got != want {
				t.Errorf("%s: got %s, want %s", impl.Print(other), got, want)
			}
		}
	}
}

// Promise 9, of packages that are printed anew.
func TestPrintedAnewRunsTheSame(t *testing.T) {
	printed := 0
	eachDrawnWorld(5, 400, func(_ packDrawer, w impl.World) {
		want, texts := whole(impl.Run(w, "m")), textsOf(w)
		for name, src := range texts {
			tree, fault := impl.Parse(src)
			if text := impl.Print(tree); fault.Code == 0 && text != "" {
				texts[name] = text
				printed++
			}
		}
		if got := whole(impl.Run(worldOf(w.Names, texts), "m")); got != want {
			t.Fatalf("%s\n%s\ngot  %s\nwant %s", worldText(w), worldText(worldOf(w.Names, texts)), got, want)
		}
	})
	if printed < 1000 {
		t.Error(printed)
	}
	for _, src := range []string{
		"", "# a note\n\n", "emit{ v :1+2 *3};#x", "def f( a,b=(2) )=((a)-(b-1)); emit {\"v\": f ( 1 ), \"w x\": (f)(1,b=0)};",
		"let l=[(x)for x in(range(3))if((x)<2)];emit{v:l [ 1 ]. a};", "emit {v: fail(\"\\41\\0a\")};",
	} {
		text := impl.Print(parsed(t, src))
		got, want := impl.Run(worldOf(nil, map[string]string{"m": text}), "m"), impl.Run(worldOf(nil, map[string]string{"m": src}), "m")
		if whole(got) != whole(want) {
			t.Errorf("%q, %q: got %s, want %s", src, text, whole(got), whole(want))
		}
	}
}

// Promise 5: an E with the text of a form means the value.
func TestFormsMeanTheirValues(t *testing.T) {
	check := func(x any) {
		t.Helper()
		form := impl.FormValue(given(x))
		w := worldOf(nil, map[string]string{"m": "let x = " + form + ";"})
		// A form may be longer than a package.
		if form == "" || !impl.ValidWorld(w) {
			return
		}
		if v, ok := impl.Look(w, "m", "x"); !ok || !sameValue(v, given(x)) {
			t.Errorf("%.200s: %s", form, brief(v))
		}
	}
	for _, x := range smallValues() {
		check(x)
	}
	for _, x := range []any{wrapped(1, 12, 0), wrapped(-1, 0, 12), many(-7, 200), manyFields(0, 200), append(many(many(0, 199), 4), many(0, 198)), strings.Repeat("\x00", 1000), countedTo(200)} {
		if !impl.ValidValue(given(x)) {
			t.Errorf("%.200s is not valid", written(x))
		}
		check(x)
	}
	eachDrawnWorld(6, 1, func(d packDrawer, _ impl.World) {
		for range 2000 {
			check(d.drawer.value(4))
		}
	})
}

// namesMade are those of the statements of a package.
func namesMade(src string) []string {
	tree, _ := impl.Parse(src)
	var names []string
	for _, node := range tree.Nodes {
		if node.Kind == impl.NodeDef || node.Kind == impl.NodeSet {
			names = append(names, node.Text)
		}
	}
	return names
}

// Promise 11.
func TestLookGivesWhatIsTold(t *testing.T) {
	known, not := 0, 0
	eachDrawnWorld(8, 200, func(_ packDrawer, w impl.World) {
		src := textsOf(w)["m"]
		out := impl.Run(w, "m")
		for _, name := range append(namesMade(src), "len", "n", "gone") {
			v, ok := impl.Look(w, "m", name)
			if x, want := secondLook(w, "m", name); ok != want || ok && !sameValue(v, given(x)) || !ok && len(v.Atoms) > 0 {
				t.Fatalf("%s\n%s: %v, %s", worldText(w), name, ok, brief(v))
			}
			if !ok {
				not++
				continue
			}
			known++
			behind := withText(w, "m", src+"\nemit {v: "+name+"};")
			if !impl.ValidValue(v) || !impl.ValidWorld(behind) {
				t.Fatalf("%s\n%s: %s", worldText(behind), name, brief(v))
			}
			got := impl.Run(behind, "m")
			if got.Code == 4 && slices.Contains([]string{"steps", "told", "large"}, got.Word) {
				continue
			}
			want := append(slices.Clone(out.Told), impl.Told{From: "m", Value: holding(impl.AtomRecord, []impl.Value{{Atoms: append(given("v").Atoms, v.Atoms...)}})})
			if fmt.Sprint(got.Told) != fmt.Sprint(want) || got.Code != 0 {
				t.Fatalf("%s\n%s: %s", worldText(behind), name, whole(got))
			}
		}
	})
	if known < 100 || not < 100 {
		t.Errorf("%d, %d", known, not)
	}
}

func TestLookAtTheLimits(t *testing.T) {
	look := func(src, name string) string {
		w := worldOf(nil, map[string]string{"m": src})
		v, ok := impl.Look(w, "m", name)
		if ok != impl.ValidValue(v) {
			t.Errorf("%s: %v, %s", src, ok, brief(v))
		}
		behind := impl.Run(withText(w, "m", src+"emit {v: "+name+"};"), "m")
		return fmt.Sprint(ok, " ", behind.Code, behind.Word, " ", len(behind.Told))
	}
	for src, want := range map[string]string{
		"let x = 1;":                                                "true 0 1",
		"let x = [[[[[[[[[[[[1]]]]]]]]]]]];":                        "true 4large 0",
		"let x = [[[[[[[[[[[1]]]]]]]]]]];":                          "true 0 1",
		"let x = 1;" + strings.Repeat("emit {};", 60):               "true 4told 0",
		"let x = 1;" + strings.Repeat("emit {};", 59):               "true 0 60",
		"let x = 1;" + strings.Repeat("emit {};", 61):               "false 4told 0",
		"let r = range(199); let x = [r, r, r, r, cut(r, 0, 198)];": "true 4large 0",
		"let r = range(199); let x = [r, r, r, r, cut(r, 0, 196)];": "true 0 1",
		"def x() = 1;": "false 4type 0",
		"let x = len;": "false 4type 0",
		"let l = range(68); let x = [len([1 for y in l]) for z in l]; " + onesBeside(98): "true 4steps 0",
		"let l = range(68); let x = [len([1 for y in l]) for z in l]; " + onesBeside(97): "true 4steps 0",
		"let l = range(68); let x = [len([1 for y in l]) for z in l]; " + onesBeside(96): "true 0 1",
	} {
		if got := look(src, "x"); got != want {
			t.Errorf("%.90s: got %s, want %s", src, got, want)
		}
	}
}

// onesBeside is a statement of so many steps and one.
func onesBeside(n int) string {
	return "let b = [" + strings.TrimSuffix(strings.Repeat("1, ", n), ", ") + "];"
}
