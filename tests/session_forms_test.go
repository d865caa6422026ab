package tests

import (
	"fmt"
	"maps"
	"math/rand/v2"
	"regexp"
	"slices"
	"strings"
	"testing"

	"loop.example/kilnclay/impl"
)

const packName = `([a-z0-9_\-./]{1,30})`

// A second reading of chapter 10: each command as it stands in a text whose last line has its newline, the first that fits counts.
var sessionForms = []struct {
	word string
	form *regexp.Regexp
}{
	{"file", regexp.MustCompile(`^file ` + packName + `\n((?:[^\n]*\n)*?)\.\n`)},
	{"bad", regexp.MustCompile(`^file ` + packName + `\n(?:[^\n]*\n)*`)},
	{"name", regexp.MustCompile(`^name ([^\n]+)\n`)},
	{"unname", regexp.MustCompile(`^unname ([^\n]+)\n`)},
	{"value", regexp.MustCompile(`^value ` + packName + ` ([^ \n]+)\n`)},
	{"drop", regexp.MustCompile(`^drop ` + packName + `\n`)},
	{"look", regexp.MustCompile(`^look ` + packName + `\n`)},
	{"print", regexp.MustCompile(`^print ` + packName + `\n`)},
	{"fold", regexp.MustCompile(`^fold ` + packName + `\n`)},
	{"run", regexp.MustCompile(`^run ` + packName + `\n`)},
	{"plan", regexp.MustCompile(`^plan ` + packName + `\n`)},
	{"read", regexp.MustCompile(`^read ` + packName + `\n`)},
	{"bad", regexp.MustCompile(`^[^\n]*\n`)},
}

// sessionTurn is a command: its whole text, its word (or `bad`), and what stands behind it.
type sessionTurn struct {
	text, word, first, second string
}

func turnsOf(text string) []sessionTurn {
	if text != "" && !strings.HasSuffix(text, "\n") {
		text += "\n"
	}
	var turns []sessionTurn
	for text != "" {
		turn := nextTurn(text)
		turns, text = append(turns, turn), text[len(turn.text):]
	}
	return turns
}

func nextTurn(text string) sessionTurn {
	for _, f := range sessionForms {
		if !strings.HasPrefix(text, f.word) && f.word != "bad" {
			continue
		}
		if parts := f.form.FindStringSubmatch(text); parts != nil {
			parts = append(parts, "", "")
			return sessionTurn{parts[0], f.word, parts[1], parts[2]}
		}
	}
	panic("no line")
}

// secondWorld is a world as a session changes it.
type secondWorld struct {
	texts map[string]string
	names map[string]bool
}

func (w secondWorld) world() impl.World {
	return worldOf(slices.Sorted(maps.Keys(w.names)), w.texts)
}

func secondSession(text string) string {
	turns := turnsOf(text)
	if len(text) > impl.MaxSession || len(turns) > impl.MaxLines {
		return "too long\n"
	}
	w := secondWorld{map[string]string{}, map[string]bool{}}
	answers := ""
	for _, turn := range turns {
		answers += w.answer(turn) + "\n"
	}
	return answers
}

// set makes a world larger by what do does, unless the world is not valid then.
func (w secondWorld) set(do func(secondWorld)) string {
	other := secondWorld{maps.Clone(w.texts), maps.Clone(w.names)}
	do(other)
	if !impl.ValidWorld(other.world()) {
		return "no"
	}
	do(w)
	return "ok"
}

func (w secondWorld) answer(turn sessionTurn) string {
	text, there := w.texts[turn.first]
	switch turn.word {
	case "file":
		return w.set(func(w secondWorld) { w.texts[turn.first] = turn.second })
	case "drop":
		delete(w.texts, turn.first)
		return map[bool]string{true: "ok", false: "none"}[there]
	case "name":
		return w.set(func(w secondWorld) { w.names[turn.first] = true })
	case "unname":
		there := w.names[turn.first]
		delete(w.names, turn.first)
		return map[bool]string{true: "ok", false: "no"}[there]
	case "look":
		if !there {
			return "none"
		}
		tree, fault := impl.Parse(text)
		unfit := impl.Check(tree)
		return strings.Split(fmt.Sprintf("fault %d %d,unfit %d %d,fits", fault.Code, fault.At, unfit.Code, unfit.At), ",")[firstOf(fault.Code != 0, unfit.Code != 0, true)]
	case "print", "fold":
		tree, fault := impl.Parse(text)
		if !there || fault.Code != 0 || impl.Check(tree).Code != 0 {
			return "no"
		}
		if turn.word == "fold" {
			tree = secondFold(tree)
		}
		anew := impl.Print(tree)
		if anew == "" {
			return "no"
		}
		w.texts[turn.first] = anew
		return "ok"
	case "value":
		if x, ok := secondLook(w.world(), turn.first, turn.second); ok {
			return written(x)
		}
		return "none"
	case "run", "plan", "read":
		return outcomeAnswer(turn.word, secondRun(w.world(), turn.first))
	}
	return "bad"
}

func firstOf(holds ...bool) int {
	return slices.Index(holds, true)
}

func outcomeAnswer(word string, o impl.Outcome) string {
	plan := secondTargets(o.Told)
	answer := ""
	switch {
	case word == "read":
		answer = strings.Join(o.Read, " ") + ";"
		for _, text := range o.Asked {
			answer += " " + inQuotes(text)
		}
	case word == "plan" && o.Code != 0:
		answer = fmt.Sprint("code ", o.Code)
	case word == "plan" && plan.Code != 0:
		answer = fmt.Sprint("plan ", plan.Code, " ", plan.At)
	case word == "plan":
		answer = "plan 0"
		for _, target := range plan.Targets {
			answer += fmt.Sprintf(" %s:%d>%d", inQuotes(target.Name), len(target.Ins), len(target.Outs))
		}
	case word == "run":
		answer = fmt.Sprintf("code %d told %d steps %d", o.Code, len(o.Told), o.Steps)
		answer += []string{"", "", " at " + o.At, " at " + o.At, " " + inQuotes(o.Word) + " at " + o.At}[o.Code]
		for _, called := range o.Trace {
			answer += " < " + called
		}
	}
	return answer
}

// checkSession holds Session against the second reading.
func checkSession(t *testing.T, text string) string {
	t.Helper()
	got, want := impl.Session(text), secondSession(text)
	if got != want {
		t.Fatalf("%.3000s\ngot\n%.2000s\nwant\n%.2000s", text, got, want)
	}
	return got
}

// Promise 13. checkBeginnings asks for the same answers to the first commands without those behind them, and without a piece of the next one.
func checkBeginnings(t *testing.T, text string, cuts []int) {
	t.Helper()
	whole := impl.Session(text)
	if whole == "too long\n" {
		return
	}
	answers, sizes := strings.SplitAfter(whole, "\n"), []int{0}
	for _, turn := range turnsOf(text) {
		sizes = append(sizes, sizes[len(sizes)-1]+len(turn.text))
	}
	for _, cut := range cuts {
		commands, _ := slices.BinarySearch(sizes[1:], cut+1)
		want := strings.Join(answers[:commands], "")
		got := impl.Session(text[:cut])
		if cut == sizes[commands] && got != want || !strings.HasPrefix(got, want) || strings.Count(got, "\n") > commands+1 {
			t.Fatalf("%.3000s\ncut at %d:\n%.2000s\n%d commands of the whole:\n%.2000s", text, cut, got, commands, want)
		}
	}
}

func TestEveryShortSession(t *testing.T) {
	everyText([]string{"file a\n", "let x=1+1;\n", ".\n", ".", "\n", " ", "run a\n", "look a", "name ", "drop a\n", "fold a\n", "value a x\n"}, 4, func(text string) {
		checkSession(t, text)
	})
}

func TestEveryShortSessionBehindAFile(t *testing.T) {
	everyText([]string{"file a\nemit {};\n.\n", "file b\nload \"a\": x;\n.\n", "drop a\n", "run b\n", "plan a\n", "read b\n", "print a\n", "name x\n", "unname x\n", "value a x\n"}, 4, func(text string) {
		checkSession(t, "file a\nlet x = files(\"\");\n.\n"+text)
	})
}

func TestEveryCutOfASession(t *testing.T) {
	text := "file a\nlet x = files(\"\");\n.\nname x y\nfile b\nload \"a\": x;\n\n..\n.\nlook b\nfile b\nload \"a\": x;\nemit {};\n.\nzap\n\nvalue a x\nplan b\nread b\nunname x y\nrun b\nfold a\ndrop a\nrun b\nfile c\nx\n"
	var cuts []int
	for cut := range len(text) + 1 {
		cuts = append(cuts, cut)
		checkSession(t, text[:cut])
		checkSession(t, text[cut:])
	}
	checkBeginnings(t, text, cuts)
	if want := "ok\nok\nok\nfault 6 14\nok\nbad\nbad\n[\"x y\"]\nplan 2 0\na b; \"\"\nok\ncode 0 told 1 steps 4\nok\nok\ncode 2 told 0 steps 0 at a\nbad\n"; impl.Session(text) != want {
		t.Errorf("%q", impl.Session(text))
	}
}

// targetsPack draws a package that tells targets for the most part.
func (d packDrawer) targetsPack() string {
	text := ""
	for range d.IntN(8) {
		x := d.target()
		for {
			if _, wrong := x.(impl.Value); !wrong {
				break
			}
			x = d.target()
		}
		text += "emit " + written(x) + ";\n"
	}
	return text
}

// packText draws a text for a package of a world.
func (d packDrawer) packText(w impl.World, name string) string {
	sort := d.IntN(8)
	if name == "t" {
		sort = d.IntN(3)
	}
	switch sort {
	case 0:
		return d.among("", "let x = ;\n", "let x = y;\n", "let a = 1;\ndef a() = 2;\n", "\n", "# \x00\n", "let", "run m\n", "let x = fail(\"q\\0a\\ff\");\n")
	case 1:
		return d.targetsPack()
	case 2:
		return "load \"t\": x;\nlet y = files(\"\") + files(\"a\");\n" + d.targetsPack()
	}
	return textsOf(w)[name]
}

// session draws one, over the packages of a world.
func (d packDrawer) session(w impl.World, size int) string {
	packs := []string{"m", "m", "c.", "b-1", "lib/a", "t", "gone", "UP"}
	text := ""
	for range size {
		pack := d.among(packs...)
		switch d.IntN(9) {
		case 0, 1, 2:
			text += "file " + pack + "\n" + d.packText(w, pack) + "\n" + d.seldom(".", "..") + "\n"
		case 3:
			text += d.among("name ", "name ", "unname ") + d.among("a", "a.c", "ab", "b.c", " ", "a b", "\"\xff", "") + "\n"
		case 4:
			text += d.among("drop ", "look ", "print ", "fold ", "fold ") + pack + "\nlook " + d.among("t", pack) + "\n"
		case 5:
			text += d.among("", " ", ".", "run", "run ", "value "+pack, "zap m", "run m ", " run m", "name", "file ", "file m x", "\r") + "\n"
		case 6:
			text += "value " + pack + " " + d.among(append(namesMade(textsOf(w)[pack]), "x", "len", "X")...) + "\n"
		case 7:
			text += "plan " + d.among("t", "t", pack) + "\n"
		default:
			text += d.among("run ", "run ", "read ") + pack + "\n"
		}
	}
	return text
}

// Promise 13.
func TestDrawnSessions(t *testing.T) {
	answers, tooLong := map[string]int{}, 0
	first := regexp.MustCompile(`^(code \d|plan \d|\w+|.)`)
	eachDrawnWorld(11, 400, func(d packDrawer, w impl.World) {
		text := ""
		for _, file := range w.Files {
			text += pack(file.Name, strings.TrimSuffix(file.Text, "\n")) + "\n"
		}
		text += d.session(w, 5+d.IntN(25))
		got := checkSession(t, text)
		if got == "too long\n" {
			tooLong++
			return
		}
		for line := range strings.Lines(got) {
			answers[first.FindString(line)]++
		}
		cuts := []int{len(text)}
		for size, turns := 0, turnsOf(text); len(turns) > 0; turns = turns[1:] {
			if d.IntN(4) == 0 {
				cuts = append(cuts, size, d.IntN(len(text)))
			}
			size += len(turns[0].text)
		}
		checkBeginnings(t, text, cuts)
		// What stands behind is no matter, whatever it is, unless it belongs to the last command.
		turns, other := turnsOf(text), impl.Session(text+d.session(w, 3))
		ended := turns[len(turns)-1].word != "bad"
		if ended && other != "too long\n" && !strings.HasPrefix(other, got) {
			t.Fatalf("%s\n%s\n%s", text, got, other)
		}
	})
	for _, answer := range []string{"ok", "no", "none", "bad", "fits", "fault", "unfit", "code 0", "code 2", "code 3", "code 4", "plan 0", "plan 2", "plan 3", "plan 4", "[", "{", "m", "c"} {
		if answers[answer] < 3 {
			t.Errorf("%d of %s", answers[answer], answer)
		}
	}
	if tooLong > 100 {
		t.Error(tooLong)
	}
}

// Every text has an answer: a line for each command, or `too long`.
func TestDrawnTextsOfSessions(t *testing.T) {
	d := packDrawer{drawer{rand.New(rand.NewPCG(7, 12))}}
	for range 3000 {
		text := ""
		for range d.IntN(40) {
			text += d.among("file", "drop", "name", "unname", "look", "run", "value", " ", " ", " ", "\n", "\n", "\n.\n", "a", "b", ".", "let x = 1;", "emit {};", "\x00", "\xff", "é", "\r\n", "a\n", " a\n", " a\n.\n")
		}
		checkSession(t, text)
		if text != "" {
			checkBeginnings(t, text, []int{d.IntN(len(text)), len(text)})
		}
	}
	for range 300 {
		var bytes []byte
		for range d.IntN(200) {
			bytes = append(bytes, byte(d.IntN(256)))
		}
		checkSession(t, string(bytes))
	}
}

// A package for each word with which a run ends.
func TestEachEndInASession(t *testing.T) {
	for word, text := range map[string]string{
		"type": "emit 1;", "large": "let x = range(201);", "range": "let x = [1][1];", "divide": "let x = 1 % 0;", "key": "let x = {}.a;",
		"early": "let x = y; let y = 1;", "name": `load "lib": _x;`, "cycle": `load "m": x;`, "told": strings.Repeat("emit {};\n", impl.MaxTold+1),
		"deep": "def f(n) = f(n); let x = f(1);", "steps": "let x = [[1 for j in range(100)] for i in range(100)];", "args": "def f() = 1; let x = f(1);", "own word": `let x = fail("own word");`,
	} {
		answers := strings.Split(checkSession(t, pack("lib", "let _x = 1;")+"\n"+pack("m", text)+"\nrun m\nplan m\nvalue m x\n"), "\n")
		end := regexp.MustCompile(`^code 4 told 0 steps \d+ "` + word + `" at m( < m\.f)*$`)
		if !end.MatchString(answers[2]) || answers[3] != "code 4" || answers[4] != "none" {
			t.Errorf("%s: %q", word, answers)
		}
	}
}
