package tests

import (
	"maps"
	"math"
	"math/big"
	"math/rand/v2"
	"slices"
	"strconv"
	"strings"
	"testing"

	"loop.example/kilnclay/impl"
)

// unlessTooLarge is an answer, or the word for one that is no value.
func unlessTooLarge(x any) (any, string) {
	atoms := given(x).Atoms
	if len(atoms) > 1000 || validFrom(atoms, len(atoms), 0) != 0 {
		return nil, "large"
	}
	return x, ""
}

// opOfNumbers does an op with numbers of any size.
func opOfNumbers(op int, a, b int) (any, string) {
	x, y, out := big.NewInt(int64(a)), big.NewInt(int64(b)), new(big.Int)
	switch op {
	case impl.OpAdd:
		out.Add(x, y)
	case impl.OpSub:
		out.Sub(x, y)
	case impl.OpMul:
		out.Mul(x, y)
	case impl.OpDiv, impl.OpRem:
		if b == 0 {
			return nil, "divide"
		}
		// The rest of this quotient is not below 0, so that the true one is below it just for a divisor below 0.
		_, above := out.DivMod(x, y, new(big.Int))
		if b < 0 && above.Sign() != 0 {
			out.Sub(out, big.NewInt(1))
		}
		if op == impl.OpRem {
			out.Sub(x, out.Mul(out, y))
		}
	default:
		return nil, "type"
	}
	if !out.IsInt64() {
		return nil, "range"
	}
	return int(out.Int64()), ""
}

func opOfBools(op int, a, b bool) (any, string) {
	switch op {
	case impl.OpOr:
		return a || b, ""
	case impl.OpAnd:
		return a && b, ""
	}
	return nil, "type"
}

// opByOrder does the ops that ask for an order.
func opByOrder(op int, a, b any) any {
	by := strings.Compare(orderKey(a), orderKey(b))
	return map[int]any{
		impl.OpSame: by == 0, impl.OpOther: by != 0, impl.OpLess: by < 0,
		impl.OpMost: by <= 0, impl.OpMore: by > 0, impl.OpLeast: by >= 0,
	}[op]
}

func hasItem(items list, wanted any) bool {
	return slices.ContainsFunc(items, func(item any) bool { return orderKey(item) == orderKey(wanted) })
}

// secondOp is chapter 6 read a second time, for Op.
func secondOp(op int, a, b any) (any, string) {
	kinds := []int{kindOf(a), kindOf(b)}
	if !fitsKinds(opKinds()[op], kinds...) {
		return nil, "type"
	}
	if impl.OpSame <= op && op <= impl.OpLeast {
		return opByOrder(op, a, b), ""
	}
	switch a := a.(type) {
	case bool:
		return opOfBools(op, a, b.(bool))
	case int:
		return opOfNumbers(op, a, b.(int))
	case string:
		if op == impl.OpHas {
			return strings.Contains(a, b.(string)), ""
		}
		return unlessTooLarge(a + b.(string))
	case list:
		if op == impl.OpHas {
			return hasItem(a, b), ""
		}
		return unlessTooLarge(slices.Concat(a, b.(list)))
	}
	if op == impl.OpHas {
		_, found := a.(fields)[b.(string)]
		return found, ""
	}
	sum := maps.Clone(a.(fields))
	maps.Copy(sum, b.(fields))
	return unlessTooLarge(sum)
}

func kindOf(x any) int {
	switch x.(type) {
	case bool:
		return impl.AtomBool
	case int:
		return impl.AtomInt
	case string:
		return impl.AtomText
	case list:
		return impl.AtomList
	case fields:
		return impl.AtomRecord
	}
	return impl.AtomNone
}

// secondBuilt is chapter 6 read a second time, for Built.
func secondBuilt(name string, args list) (any, string) {
	var kinds []int
	for _, arg := range args {
		kinds = append(kinds, kindOf(arg))
	}
	if !fitsKinds(builtKinds()[name], kinds...) {
		return nil, "type"
	}
	switch first := args[0].(type) {
	case string:
		return builtOfText(name, first, args[1:])
	case list:
		return builtOfList(name, first, args[1:])
	case fields:
		return builtOfRecord(name, first, args[1:])
	case int:
		if name == "range" && first < 0 {
			return nil, "range"
		} else if name == "range" {
			return unlessTooLarge(countedTo(min(first, 300)))
		}
	}
	return unlessTooLarge(written(args[0]))
}

func builtOfText(name, text string, more list) (any, string) {
	switch name {
	case "len":
		return len(text), ""
	case "text":
		return text, ""
	case "int":
		n, ok := new(big.Int).SetString(text, 10)
		if !ok || !n.IsInt64() || n.String() != text {
			return nil, "range"
		}
		return int(n.Int64()), ""
	case "begins":
		return strings.Index(text, more[0].(string)) == 0, ""
	case "cut":
		first, second := more[0].(int), more[1].(int)
		if first < 0 || second < first || len(text) < second {
			return nil, "range"
		}
		return text[first:second], ""
	}
	between, pieces := more[0].(string), list{}
	if between == "" {
		return nil, "range"
	}
	for {
		piece, rest, found := strings.Cut(text, between)
		pieces, text = append(pieces, piece), rest
		if !found {
			return unlessTooLarge(pieces)
		}
	}
}

func builtOfList(name string, items list, more list) (any, string) {
	switch name {
	case "len":
		return len(items), ""
	case "text":
		return unlessTooLarge(written(items))
	case "sorted":
		made := slices.Clone(items)
		slices.SortFunc(made, func(a, b any) int { return strings.Compare(orderKey(a), orderKey(b)) })
		return made, ""
	case "unique":
		made := list{}
		for i, item := range items {
			if !hasItem(items[:i], item) {
				made = append(made, item)
			}
		}
		return made, ""
	case "join":
		made := ""
		for i, item := range items {
			if kindOf(item) != impl.AtomText {
				return nil, "type"
			}
			if i > 0 {
				made += more[0].(string)
			}
			made += item.(string)
		}
		return unlessTooLarge(made)
	case "cut":
		first, second := more[0].(int), more[1].(int)
		if first < 0 || second < first || len(items) < second {
			return nil, "range"
		}
		return items[first:second], ""
	}
	return recordOf(items)
}

func recordOf(items list) (any, string) {
	made := fields{}
	for _, item := range items {
		pair, ok := item.(list)
		if !ok || len(pair) != 2 || kindOf(pair[0]) != impl.AtomText {
			return nil, "type"
		}
		made[pair[0].(string)] = pair[1]
	}
	if len(made) < len(items) {
		return nil, "key"
	}
	return made, ""
}

func builtOfRecord(name string, record fields, more list) (any, string) {
	switch name {
	case "len":
		return len(record), ""
	case "text":
		return unlessTooLarge(written(record))
	case "keys":
		names := list{}
		for _, name := range slices.Sorted(maps.Keys(record)) {
			names = append(names, name)
		}
		return names, ""
	}
	made := maps.Clone(record)
	delete(made, more[0].(string))
	return made, ""
}

func checkOps(t *testing.T, a, b any) {
	t.Helper()
	first, second := given(a), given(b)
	for op := impl.OpOr; op <= impl.OpRem; op++ {
		got, want := answer(impl.Op(op, first, second)), wanted(secondOp(op, a, b))
		if got != want {
			t.Errorf("%.90s op %d %.90s: got %.90s, want %.90s", written(a), op, written(b), got, want)
		}
	}
}

// wanted is the answer that a second reading gives.
func wanted(x any, word string) string {
	if word != "" {
		return "!" + word
	}
	return written(x)
}

func checkBuilt(t *testing.T, args ...any) {
	t.Helper()
	for name := range builtKinds() {
		wantBuilt(t, wanted(secondBuilt(name, args)), name, args...)
	}
}

// edgeNumbers are those at which an op of numbers may go wrong.
func edgeNumbers() []int {
	numbers := []int{3037000499, 3037000500, -3037000500, 4294967296, -4294967296, math.MaxInt / 2, math.MaxInt/2 + 1, math.MinInt / 2, math.MinInt/2 - 1, math.MaxInt / 3, math.MinInt / 3}
	for near := range 8 {
		numbers = append(numbers, near, -near, 100*near, math.MaxInt-near, math.MinInt+near)
	}
	return numbers
}

func TestNumbersOfEachSign(t *testing.T) {
	for _, a := range edgeNumbers() {
		for _, b := range edgeNumbers() {
			checkOps(t, a, b)
		}
	}
	draw := drawer{rand.New(rand.NewPCG(6, 1))}
	for range 2000 {
		a, b := int(draw.Uint64())>>draw.IntN(64), int(draw.Uint64())>>draw.IntN(64)
		checkOps(t, a, b)
	}
}

// largeValues are valid, and make more of them when put together.
func largeValues() []any {
	long := strings.Repeat("x", 1000)
	return []any{
		long, long[:500], strings.Repeat(",", 199), strings.Repeat(",", 200), strings.Repeat("\x00", 333),
		many(0, 200), many(0, 100), many("a", 101), many(many(nil, 99), 5), many(many(nil, 198), 5), list{long, long}, countedTo(200),
		manyFields(0, 200), manyFields(nil, 100), fields{"x": manyFields(0, 199), "n000": many(0, 199)}, pairsOf(manyFields(0, 150)), wrapped(1, 12, 0), wrapped("a", 4, 8),
	}
}

func TestOpsReadASecondTime(t *testing.T) {
	values := append(leaves(), largeValues()...)
	for _, list := range kindsOf() {
		values = append(values, list...)
	}
	for _, a := range values {
		for _, b := range values {
			checkOps(t, a, b)
		}
	}
	draw := drawer{rand.New(rand.NewPCG(6, 2))}
	for range 1000 {
		checkOps(t, draw.value(3), draw.value(3))
	}
}

// decimals are texts that are nearly numbers.
func decimals() []any {
	var texts []any
	for _, n := range edgeNumbers() {
		form := strconv.Itoa(n)
		texts = append(texts, form, "-"+form, "+"+form, "0"+form, form+"0", form+" ", strings.TrimPrefix(form, "-"))
	}
	return texts
}

func TestBuiltReadASecondTime(t *testing.T) {
	values := slices.Concat(leaves(), largeValues(), []any{list{"a", "b", ""}, list{"b", "a", "b"}, list{list{"b", 1}, list{"a", 2}}, list{list{"a", 1}, list{"a", 2}}, list{list{"a"}}, "a,b,,a", ","})
	for _, x := range slices.Concat(values, decimals(), smallValues()) {
		checkBuilt(t, x)
	}
	for _, a := range values {
		for _, b := range values {
			checkBuilt(t, a, b)
		}
	}
	for _, a := range []any{"", "a", "abc", list{}, list{1, nil, "b"}, 1, nil, fields{"a": 1}} {
		for first := -2; first < 6; first++ {
			for second := -2; second < 6; second++ {
				checkBuilt(t, a, first, second)
			}
		}
		checkBuilt(t, a, math.MinInt, 1)
		checkBuilt(t, a, 0, math.MaxInt)
		checkBuilt(t, a, "0", 1)
		checkBuilt(t, a, 0, nil)
	}
	draw := drawer{rand.New(rand.NewPCG(6, 3))}
	for range 1000 {
		checkBuilt(t, draw.value(4))
		checkBuilt(t, draw.value(2), draw.text())
		checkBuilt(t, draw.text()+draw.text()+draw.text(), draw.text())
		checkBuilt(t, list{list{draw.text(), draw.value(1)}, list{draw.text(), draw.value(1)}, list{draw.text(), draw.value(1)}})
	}
}

// opOf is what an op gives, where the values are there and it gives one.
func opOf(op int, a, b impl.Value) impl.Value {
	if len(a.Atoms) == 0 || len(b.Atoms) == 0 {
		return impl.Value{}
	}
	v, _ := impl.Op(op, a, b)
	return v
}

func TestQuotientTimesDivisorAndRest(t *testing.T) {
	for _, x := range edgeNumbers() {
		for _, y := range edgeNumbers() {
			a, b := given(x), given(y)
			quotient, word := impl.Op(impl.OpDiv, a, b)
			if word != "" {
				if (word != "divide" || y != 0) && (word != "range" || x != math.MinInt || y != -1) {
					t.Errorf("%d / %d: %s", x, y, word)
				}
				continue
			}
			product, word := impl.Op(impl.OpMul, quotient, b)
			if _, due := opOfNumbers(impl.OpMul, int(quotient.Atoms[0].N), y); word != due {
				t.Errorf("%s * %d: %s", impl.FormValue(quotient), y, word)
			}
			sum := opOf(impl.OpAdd, product, opOf(impl.OpRem, a, b))
			if word == "" && !sameValue(sum, a) {
				t.Errorf("(%d / %d) * %d + %d %% %d: %s", x, y, y, x, y, brief(sum))
			}
		}
	}
}

func TestSumsAreAssociative(t *testing.T) {
	long := strings.Repeat("x", 1000)
	rows := [][]any{
		{"", "a", "bc", "\x00", long[:333], long[:334], long[:500], long[:999], long},
		{list{}, list{1}, list{list{}, "a"}, many(0, 66), many(0, 67), many(0, 100), many(0, 199), many(0, 200), many(many(0, 32), 10), many(many(0, 40), 12)},
		{fields{}, fields{"a": 1}, fields{"a": 2, "b": 1}, fields{"": 0, "n001": 1}, manyFields(0, 100), manyFields(1, 199)},
	}
	for _, row := range rows {
		for i := range len(row) * len(row) * len(row) {
			a, b, c := given(row[i%len(row)]), given(row[i/len(row)%len(row)]), given(row[i/len(row)/len(row)])
			first, second := opOf(impl.OpAdd, opOf(impl.OpAdd, a, b), c), opOf(impl.OpAdd, a, opOf(impl.OpAdd, b, c))
			if !sameValue(first, second) {
				t.Errorf("%s, %s, %s: %s, %s", brief(a), brief(b), brief(c), brief(first), brief(second))
			}
		}
	}
}

// itemsIn cuts the items out of the atoms of a list.
func itemsIn(v impl.Value) []impl.Value {
	var items []impl.Value
	for end := len(v.Atoms) - 1; end > 0; {
		start := validFrom(v.Atoms, end, 0)
		items = append(items, impl.Value{Atoms: v.Atoms[start:end]})
		end = start
	}
	slices.Reverse(items)
	return items
}

func TestSortedIsInOrder(t *testing.T) {
	draw := drawer{rand.New(rand.NewPCG(6, 4))}
	few := smallValues()
	for size := range 200 {
		items := list{}
		for range size {
			items = append(items, few[draw.IntN(len(few))])
		}
		before := given(items)
		after, word := impl.Built("sorted", []impl.Value{before})
		if _, tooLarge := unlessTooLarge(items); tooLarge != "" {
			if got := answer(after, word); got != "!type" {
				t.Errorf("%d items: %s", size, got)
			}
			continue
		}
		times := map[string]int{}
		for _, item := range itemsIn(before) {
			times[impl.FormValue(item)]++
		}
		row := itemsIn(after)
		for i, item := range row {
			times[impl.FormValue(item)]--
			if i > 0 && impl.Order(row[i-1], item) > 0 {
				t.Errorf("%s comes behind %s", brief(item), brief(row[i-1]))
			}
		}
		for form, left := range times {
			if word != "" || left != 0 {
				t.Errorf("%q: %s is there %d times more than it was", word, form, -left)
			}
		}
	}
}
