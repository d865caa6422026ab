package tests

import (
	"math/rand/v2"
	"slices"
	"strconv"
	"strings"
	"testing"

	"loop.example/kilnclay/impl"
)

// The document's table and ranks as a grammar: a line a name, what it may be, with | between. E0 to E9 are the E of at least that rank.
const treeGrammar = `
File = Statement | File Statement
Statement = def NAME Params = E0 ; | let NAME = E0 ; | emit E0 ; | load TEXT : Names ;
Names = NAME | Names , NAME
Params = ( ) | ( ParamRow )
ParamRow = Param | ParamRow , Param
Param = NAME | NAME = E0
E0 = E1 | let NAME = E0 in E0 | if E0 then E0 else E0 | fn Params => E0
E1 = E2 | E1 or E2
E2 = E3 | E2 and E3
E3 = E4 | not E3
E4 = E5 | E5 == E5 | E5 != E5 | E5 < E5 | E5 <= E5 | E5 > E5 | E5 >= E5 | E5 has E5
E5 = E6 | E5 + E6 | E5 - E6
E6 = E7 | E6 * E7 | E6 / E7 | E6 % E7
E7 = E8 | - E7
E8 = E9 | E8 [ E0 ] | E8 . NAME | E8 ( ) | E8 ( Args )
E9 = none | false | true | INT | TEXT | NAME | ( E0 ) | [ ] | [ Items ] | { } | { Fields } | [ E0 for NAME in E0 ] | [ E0 for NAME in E0 if E0 ]
Items = E0 | Items , E0
Fields = Field | Fields , Field
Field = NAME : E0 | TEXT : E0
Args = Items | NamedRow | Items , NamedRow
NamedRow = Named | NamedRow , Named
Named = NAME = E0
`

// chartItem is a rule of the grammar of which the parts ahead of dot have been read, from a token on.
type chartItem struct {
	head string
	rule string
	dot  int
	from int
}

func (i chartItem) next() string {
	if parts := strings.Fields(i.rule); i.dot < len(parts) {
		return parts[i.dot]
	}
	return ""
}

// chart reads tokens by the grammar alone: it knows of each text whether it can go on, and with what (Earley's way).
type chart struct {
	rules map[string][]string
	sets  [][]chartItem
}

func newChart() *chart {
	c := &chart{rules: map[string][]string{}}
	for line := range strings.Lines(strings.TrimSpace(treeGrammar)) {
		head, rules, _ := strings.Cut(strings.TrimSpace(line), " = ")
		c.rules[head] = strings.Split(rules, " | ")
	}
	c.fill([]chartItem{{head: "Start", rule: "File"}})
	return c
}

// fill puts a set behind the others, with all that follows from its first items.
func (c *chart) fill(first []chartItem) {
	at := len(c.sets)
	set := first
	seen := map[chartItem]bool{}
	add := func(item chartItem) {
		if !seen[item] {
			seen[item] = true
			set = append(set, item)
		}
	}
	for _, item := range first {
		seen[item] = true
	}
	for i := 0; i < len(set); i++ {
		item := set[i]
		wanted := item.next()
		for _, rule := range c.rules[wanted] {
			add(chartItem{wanted, rule, 0, at})
		}
		if wanted == "" {
			for _, waiting := range c.sets[item.from] {
				if waiting.next() == item.head {
					waiting.dot++
					add(waiting)
				}
			}
		}
	}
	c.sets = append(c.sets, set)
}

// wanted are the tokens with which the text can go on.
func (c *chart) wanted() map[string]bool {
	wanted := map[string]bool{}
	for _, item := range c.sets[len(c.sets)-1] {
		if next := item.next(); next != "" && c.rules[next] == nil {
			wanted[next] = true
		}
	}
	return wanted
}

// whole says whether the text is a file as it is.
func (c *chart) whole() bool {
	end := chartItem{head: "Start", rule: "File", dot: 1}
	return len(c.sets) == 1 || slices.Contains(c.sets[len(c.sets)-1], end)
}

func (c *chart) push(token string) {
	var first []chartItem
	for _, item := range c.sets[len(c.sets)-1] {
		if item.next() == token {
			item.dot++
			first = append(first, item)
		}
	}
	c.fill(first)
}

func (c *chart) pop() {
	c.sets = c.sets[:len(c.sets)-1]
}

// treeTokens are all tokens there are, as the grammar names them.
func treeTokens() []string {
	return slices.Concat([]string{"NAME", "INT", "TEXT"}, words(), marks())
}

func spelled(token string) string {
	switch token {
	case "NAME":
		return "a"
	case "INT":
		return "7"
	case "TEXT":
		return `"t"`
	}
	return token
}

// checkGoingOn holds Parse against the grammar at a text that can go on: as it ends here, and with each token behind it.
func checkGoingOn(t *testing.T, c *chart, src string) {
	t.Helper()
	_, fault := impl.Parse(src)
	if c.whole() && fault.Code != 0 && fault.Code != 7 || !c.whole() && fault != (impl.Fault{Code: 6, At: len(src)}) {
		t.Fatalf("Parse(%q): %+v; a whole file: %v", src, fault, c.whole())
	}
	wanted := c.wanted()
	for _, token := range treeTokens() {
		longer := src + spelled(token) + " ; } a"
		_, fault := impl.Parse(longer)
		if here := fault == (impl.Fault{Code: 6, At: len(src)}); here == wanted[token] || fault.Code != 6 {
			t.Fatalf("Parse(%q): %+v; it can go on: %v", longer, fault, wanted[token])
		}
	}
}

// goOn looks at all texts that go on by up to so many tokens.
func goOn(t *testing.T, c *chart, src string, more int) {
	t.Helper()
	checkGoingOn(t, c, src)
	if more == 0 {
		return
	}
	for token := range c.wanted() {
		c.push(token)
		goOn(t, c, src+spelled(token)+" ", more-1)
		c.pop()
	}
}

func TestParseEveryShortText(t *testing.T) {
	for _, begun := range []string{
		"", "def NAME (", "load TEXT :", "let NAME =", "emit NAME", "emit not", "emit -", "emit NAME <", "emit NAME < NAME", "emit NAME +", "emit NAME and",
		"emit NAME (", "emit NAME ( NAME", "emit NAME ( NAME =", "emit NAME ( NAME = NAME ,", "emit {", "emit { NAME : NAME", "emit [ NAME", "emit [ NAME for NAME in",
		"emit [ NAME for NAME in NAME if", "emit ( NAME < NAME", "emit if NAME then NAME", "emit let NAME = NAME", "emit fn ( NAME", "emit fn ( ) =>", "emit NAME [", "emit NAME ; emit",
	} {
		c := newChart()
		src := ""
		for token := range strings.FieldsSeq(begun) {
			c.push(token)
			src += spelled(token) + " "
		}
		goOn(t, c, src, 2)
	}
}

// TestParseLongTexts goes on by tokens that are drawn, the same each time.
func TestParseLongTexts(t *testing.T) {
	draw := rand.New(rand.NewPCG(2, 6))
	for range 60 {
		c := newChart()
		src := ""
		for range 25 {
			checkGoingOn(t, c, src)
			var tokens []string
			for _, token := range treeTokens() {
				if c.wanted()[token] {
					tokens = append(tokens, token)
				}
			}
			token := tokens[draw.IntN(len(tokens))]
			c.push(token)
			src += spelled(token) + " "
		}
	}
}

// drawer makes trees that are drawn, the same each time.
type drawer struct {
	*rand.Rand
}

func (d drawer) name() string {
	return string("abcxyz_"[d.IntN(7)]) + []string{"", "", "1", "_if"}[d.IntN(4)]
}

func (d drawer) row(most, deep int) []plant {
	var row []plant
	for range d.IntN(most + 1) {
		row = append(row, d.e(deep))
	}
	return row
}

// texts makes nodes of a kind, with texts that differ.
func (d drawer) texts(k, most, deep int) []plant {
	var row []plant
	for i := range d.IntN(most + 1) {
		text := d.name() + strconv.Itoa(i)
		if k == impl.NodeField && d.IntN(2) == 0 {
			text = strings.Repeat("\x01 \"", i) + "A"
		}
		row = append(row, texted(k, text, d.e(deep)))
	}
	return row
}

func (d drawer) params(deep int) []plant {
	params := d.texts(impl.NodeParam, 3, deep)
	for i := range params {
		if d.IntN(2) == 0 {
			params[i] = texted(impl.NodeParam, params[i].node.Text)
		}
	}
	return params
}

func (d drawer) e(deep int) plant {
	k := impl.NodeNone + d.IntN(impl.NodeEach)
	if deep == 0 {
		k = impl.NodeNone + d.IntN(impl.NodeName)
	}
	deep--
	switch k {
	case impl.NodeNone:
		return kind(k)
	case impl.NodeBool:
		return boolean(d.Int64N(2))
	case impl.NodeInt:
		return number(d.Int64() >> d.IntN(63))
	case impl.NodeText:
		return text([]string{"", "a", "if", "\xfe\\\"", "a\nb # c"}[d.IntN(5)])
	case impl.NodeName:
		return name(d.name())
	case impl.NodeUn:
		return unary(1+d.IntN(2), d.e(deep))
	case impl.NodeBin:
		return binary(1+d.IntN(14), d.e(deep), d.e(deep))
	case impl.NodeList:
		return kind(k, d.row(3, deep)...)
	case impl.NodeRecord:
		return kind(k, d.texts(impl.NodeField, 3, deep)...)
	case impl.NodeIndex:
		return kind(k, d.e(deep), d.e(deep))
	case impl.NodeDot:
		return texted(k, d.name(), d.e(deep))
	case impl.NodeCall:
		return kind(k, slices.Concat([]plant{d.e(deep)}, d.row(2, deep), d.texts(impl.NodeNamed, 2, deep))...)
	case impl.NodeIf:
		return kind(k, d.e(deep), d.e(deep), d.e(deep))
	case impl.NodeLet:
		return texted(k, d.name(), d.e(deep), d.e(deep))
	case impl.NodeFn:
		return kind(k, append(d.params(deep), d.e(deep))...)
	}
	each := []plant{d.e(deep), d.e(deep), d.e(deep)}
	return texted(impl.NodeEach, d.name(), each[:2+d.IntN(2)]...)
}

func (d drawer) statement() plant {
	switch d.IntN(4) {
	case 0:
		return texted(impl.NodeDef, d.name(), append(d.params(3), d.e(4))...)
	case 1:
		return texted(impl.NodeSet, d.name(), d.e(5))
	case 2:
		return texted(impl.NodeLoad, "lib/"+d.name(), name(d.name()), name(d.name()))
	}
	return kind(impl.NodeEmit, d.e(5))
}

// bracketed writes a plant with brackets around each E, so that no rank counts.
func (p plant) bracketed() string {
	var kids []string
	for _, kid := range p.kids {
		kids = append(kids, kid.bracketed())
	}
	text, last := p.node.Text, len(kids)-1
	quoted := `"`
	for i := range len(text) {
		quoted += `\` + strconv.FormatInt(int64(text[i])|256, 16)[1:]
	}
	quoted += `"`
	signs := strings.Fields("or and == != < <= > >= has + - * / %")
	switch p.node.Kind {
	case impl.NodeNone:
		return "(none)"
	case impl.NodeBool:
		return "(" + []string{"false", "true"}[p.node.N] + ")"
	case impl.NodeInt:
		return "(" + strconv.FormatInt(p.node.N, 10) + ")"
	case impl.NodeText:
		return "(" + quoted + ")"
	case impl.NodeName:
		return "(" + text + ")"
	case impl.NodeUn:
		return "(" + []string{"not", "-"}[p.node.Op-1] + kids[0] + ")"
	case impl.NodeBin:
		return "(" + kids[0] + signs[p.node.Op-1] + kids[1] + ")"
	case impl.NodeList:
		return "([" + strings.Join(kids, ",") + "])"
	case impl.NodeRecord:
		return "({" + strings.Join(kids, ",") + "})"
	case impl.NodeIndex:
		return "(" + kids[0] + "[" + kids[1] + "])"
	case impl.NodeDot:
		return "(" + kids[0] + "." + text + ")"
	case impl.NodeCall:
		return "(" + kids[0] + "(" + strings.Join(kids[1:], ",") + "))"
	case impl.NodeIf:
		return "(if" + kids[0] + "then" + kids[1] + "else" + kids[2] + ")"
	case impl.NodeLet:
		return "(let " + text + "=" + kids[0] + "in" + kids[1] + ")"
	case impl.NodeFn:
		return "(fn(" + strings.Join(kids[:last], ",") + ")=>" + kids[last] + ")"
	case impl.NodeEach:
		return "([" + kids[1] + "for " + text + " in" + strings.Join(append([]string{kids[0]}, kids[2:]...), "if") + "])"
	case impl.NodeField:
		return quoted + ":" + kids[0]
	case impl.NodeNamed:
		return text + "=" + kids[0]
	case impl.NodeParam:
		return strings.Join(append([]string{text}, kids...), "=")
	case impl.NodeDef:
		return "def " + text + "(" + strings.Join(kids[:last], ",") + ")=" + kids[last] + ";"
	case impl.NodeSet:
		return "let " + text + "=" + kids[0] + ";"
	case impl.NodeEmit:
		return "emit" + kids[0] + ";"
	case impl.NodeLoad:
		return "load" + quoted + ":" + strings.NewReplacer("(", "", ")", "").Replace(strings.Join(kids, ",")) + ";"
	}
	return strings.Join(kids, "")
}

// bracketPairs are the places of the tokens ( and ) that belong together.
func bracketPairs(tokens []impl.Token) [][2]int {
	var open []int
	var pairs [][2]int
	for _, token := range tokens {
		if token == markAt("(", token.At) {
			open = append(open, token.At)
		}
		if token == markAt(")", token.At) {
			pairs = append(pairs, [2]int{open[len(open)-1], token.At})
			open = open[:len(open)-1]
		}
	}
	return pairs
}

// TestDrawnTrees asks promise 2 of drawn trees, and of their texts whether each pair of brackets is needed.
func TestDrawnTrees(t *testing.T) {
	draw := drawer{rand.New(rand.NewPCG(7, 1))}
	for range 4000 {
		whole := kind(impl.NodeFile, draw.statement(), draw.statement())
		tree := impl.Tree{Nodes: whole.nodes(nil)}
		printed := impl.Print(tree)
		if printed == "" {
			if bracketed := whole.bracketed(); !impl.ValidTree(tree) || len(bracketed) <= impl.MaxSrc/2 {
				t.Fatalf("not printed: %q", bracketed)
			}
			continue
		}
		wantTree(t, printed, tree)
		if bracketed := whole.bracketed(); len(bracketed) <= impl.MaxSrc {
			wantTree(t, bracketed, tree)
		}
		tokens, _ := impl.Scan(printed)
		for _, pair := range bracketPairs(tokens) {
			less := printed[:pair[0]] + " " + printed[pair[0]+1:pair[1]] + " " + printed[pair[1]+1:]
			if again, fault := impl.Parse(less); fault.Code == 0 && slices.Equal(again.Nodes, tree.Nodes) {
				t.Fatalf("brackets at %v are not needed: %q", pair, printed)
			}
		}
		wantTree(t, regapped(printed, tokens), tree)
	}
}

// regapped is the same tokens with other gaps.
func regapped(src string, tokens []impl.Token) string {
	again := ""
	for i, token := range tokens {
		end := len(src)
		if i+1 < len(tokens) {
			end = tokens[i+1].At
		}
		again += strings.TrimRight(src[token.At:end], " \n") + []string{" ", "\n", "#\n", "  # ( \"\n"}[i%4]
		if len(again) > impl.MaxSrc-2000 {
			return src
		}
	}
	return again
}
