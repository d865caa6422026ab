package tests

import (
	"fmt"
	"maps"
	"slices"
	"strings"

	"loop.example/kilnclay/impl"
)

// secondRun is chapter 7 read a second time: it walks the nodes each time anew, finds names by their text in a chain of frames, and takes Go's own values.
func secondRun(w impl.World, name string) impl.Outcome {
	_, out := secondReading(w, name)
	return out
}

// secondLook is what Look gives.
func secondLook(w impl.World, name, at string) (any, bool) {
	s, out := secondReading(w, name)
	if out.Code != 0 {
		return nil, false
	}
	x, ok := s.packs[name].own[at]
	return x, ok && !isFunction(x)
}

func secondReading(w impl.World, name string) (*second, impl.Outcome) {
	s := &second{world: w, packs: map[string]*secondPack{}, asked: map[string]bool{}}
	end := s.ended(func() { s.pack(name) })
	out := impl.Outcome{Code: end.code, Word: end.word, At: end.at, Steps: s.steps}
	out.Read, out.Asked = slices.Sorted(maps.Keys(s.packs)), slices.Sorted(maps.Keys(s.asked))
	if end.code == 0 {
		out.Told = s.told
	} else {
		out.Trace = s.trace
	}
	return s, out
}

type second struct {
	world impl.World
	packs map[string]*secondPack
	asked map[string]bool
	trace []string
	told  []impl.Told
	steps int
}

type secondPack struct {
	name string
	// own are the names that it makes itself, loaded the others; each only when its statement has been run.
	own, loaded map[string]any
	// makes are all names of the file.
	makes map[string]bool
	done  bool
}

type secondEnd struct {
	code     int
	word, at string
}

func (s *second) ended(do func()) (end secondEnd) {
	defer func() {
		if caught := recover(); caught != nil {
			end = caught.(secondEnd)
		}
	}()
	do()
	return secondEnd{}
}

func (p *secondPack) end(word string) secondEnd {
	return secondEnd{4, word, p.name}
}

// twig is a node with its kids at hand.
type twig struct {
	impl.Node
	kids []twig
}

func twigOf(tree impl.Tree) twig {
	var open []twig
	for _, node := range tree.Nodes {
		first := len(open) - node.Kids
		open = append(open[:first:first], twig{node, open[first:]})
	}
	return open[0]
}

// frame is one name with what it is, and all that is known outside of it.
type frame struct {
	name    string
	is      any
	outside *frame
}

// secondFunction is one of a package; secondBuiltName is a built one.
type secondFunction struct {
	pack   *secondPack
	called string
	node   twig
	place  *frame
}
type secondBuiltName string

func isFunction(x any) bool {
	switch x.(type) {
	case *secondFunction, secondBuiltName:
		return true
	}
	return false
}

func (s *second) pack(name string) *secondPack {
	p := &secondPack{name: name, own: map[string]any{}, loaded: map[string]any{}, makes: map[string]bool{}}
	s.packs[name] = p
	src, found := "", false
	for _, file := range s.world.Files {
		if file.Name == name {
			src, found = file.Text, true
		}
	}
	if !found {
		panic(secondEnd{2, "", name})
	}
	tree, fault := impl.Parse(src)
	if fault.Code != 0 || impl.Check(tree).Code != 0 {
		panic(secondEnd{3, "", name})
	}
	file := twigOf(tree)
	for _, statement := range file.kids {
		switch statement.Kind {
		case impl.NodeDef, impl.NodeSet:
			p.makes[statement.Text] = true
		case impl.NodeLoad:
			for _, kid := range statement.kids {
				p.makes[kid.Text] = true
			}
		}
	}
	for _, statement := range file.kids {
		s.statement(p, statement)
	}
	p.done = true
	return p
}

func (s *second) statement(p *secondPack, t twig) {
	switch t.Kind {
	case impl.NodeDef:
		p.own[t.Text] = &secondFunction{p, t.Text, t, nil}
	case impl.NodeSet:
		p.own[t.Text] = s.e(p, t.kids[0], nil)
	case impl.NodeEmit:
		record, ok := s.e(p, t.kids[0], nil).(fields)
		if !ok {
			panic(p.end("type"))
		}
		if len(s.told) == 60 {
			panic(p.end("told"))
		}
		s.told = append(s.told, impl.Told{From: p.name, Value: given(record)})
	case impl.NodeLoad:
		from, known := s.packs[t.Text]
		if known && !from.done {
			panic(p.end("cycle"))
		}
		if !known {
			from = s.pack(t.Text)
		}
		for _, kid := range t.kids {
			is, ok := from.own[kid.Text]
			if !ok || strings.HasPrefix(kid.Text, "_") {
				panic(p.end("name"))
			}
			p.loaded[kid.Text] = is
		}
	}
}

func (s *second) lookup(p *secondPack, name string, place *frame) any {
	for ; place != nil; place = place.outside {
		if place.name == name {
			return place.is
		}
	}
	if !p.makes[name] {
		return secondBuiltName(name)
	}
	if is, ok := p.own[name]; ok {
		return is
	}
	if is, ok := p.loaded[name]; ok {
		return is
	}
	panic(p.end("early"))
}

// value is an E where a value is needed.
func (s *second) value(p *secondPack, t twig, place *frame) any {
	x := s.e(p, t, place)
	if isFunction(x) {
		panic(p.end("type"))
	}
	return x
}

func (s *second) truth(p *secondPack, t twig, place *frame) bool {
	x, ok := s.e(p, t, place).(bool)
	if !ok {
		panic(p.end("type"))
	}
	return x
}

func (p *secondPack) orEnd(x any, word string) any {
	if word != "" {
		panic(p.end(word))
	}
	return x
}

func (s *second) e(p *secondPack, t twig, place *frame) any {
	if s.steps == 5000 {
		panic(p.end("steps"))
	}
	s.steps++
	switch t.Kind {
	case impl.NodeNone:
		return nil
	case impl.NodeBool:
		return t.N == 1
	case impl.NodeInt:
		return int(t.N)
	case impl.NodeText:
		return t.Text
	case impl.NodeName:
		return s.lookup(p, t.Text, place)
	case impl.NodeUn:
		return p.orEnd(secondUn(t.Op, s.value(p, t.kids[0], place)))
	case impl.NodeBin:
		return s.bin(p, t, place)
	case impl.NodeList:
		items := list{}
		for _, kid := range t.kids {
			items = append(items, s.value(p, kid, place))
		}
		return p.orEnd(unlessTooLarge(items))
	case impl.NodeRecord:
		record := fields{}
		for _, kid := range t.kids {
			record[kid.Text] = s.value(p, kid.kids[0], place)
		}
		return p.orEnd(unlessTooLarge(record))
	case impl.NodeIndex:
		from := s.value(p, t.kids[0], place)
		return p.orEnd(secondIndex(from, s.value(p, t.kids[1], place)))
	case impl.NodeDot:
		record, ok := s.e(p, t.kids[0], place).(fields)
		if !ok {
			panic(p.end("type"))
		}
		return p.orEnd(secondIndex(record, t.Text))
	case impl.NodeCall:
		return s.call(p, t, place)
	case impl.NodeIf:
		if s.truth(p, t.kids[0], place) {
			return s.e(p, t.kids[1], place)
		}
		return s.e(p, t.kids[2], place)
	case impl.NodeLet:
		return s.e(p, t.kids[1], &frame{t.Text, s.e(p, t.kids[0], place), place})
	case impl.NodeFn:
		return &secondFunction{p, "fn", t, place}
	case impl.NodeEach:
		return s.each(p, t, place)
	}
	panic(fmt.Sprint("kind ", t.Kind))
}

func secondUn(op int, x any) (any, string) {
	switch x := x.(type) {
	case bool:
		if op == impl.OpNot {
			return !x, ""
		}
	case int:
		if op == impl.OpNeg {
			return opOfNumbers(impl.OpSub, 0, x)
		}
	}
	return nil, "type"
}

func (s *second) bin(p *secondPack, t twig, place *frame) any {
	switch t.Op {
	case impl.OpOr:
		return s.truth(p, t.kids[0], place) || s.truth(p, t.kids[1], place)
	case impl.OpAnd:
		return s.truth(p, t.kids[0], place) && s.truth(p, t.kids[1], place)
	}
	first := s.value(p, t.kids[0], place)
	return p.orEnd(secondOp(t.Op, first, s.value(p, t.kids[1], place)))
}

func secondIndex(from, at any) (any, string) {
	switch from := from.(type) {
	case list:
		if n, ok := at.(int); ok {
			if n < 0 || n >= len(from) {
				return nil, "range"
			}
			return from[n], ""
		}
	case string:
		if n, ok := at.(int); ok {
			if n < 0 || n >= len(from) {
				return nil, "range"
			}
			return from[n : n+1], ""
		}
	case fields:
		if name, ok := at.(string); ok {
			x, found := from[name]
			if !found {
				return nil, "key"
			}
			return x, ""
		}
	}
	return nil, "type"
}

func (s *second) each(p *secondPack, t twig, place *frame) any {
	items, ok := s.e(p, t.kids[0], place).(list)
	if !ok {
		panic(p.end("type"))
	}
	made := list{}
	for _, item := range items {
		inside := &frame{t.Text, item, place}
		if len(t.kids) == 2 || s.truth(p, t.kids[2], inside) {
			made = append(made, s.value(p, t.kids[1], inside))
		}
	}
	return p.orEnd(unlessTooLarge(made))
}

func (s *second) call(p *secondPack, t twig, place *frame) any {
	f := s.e(p, t.kids[0], place)
	if !isFunction(f) {
		panic(p.end("type"))
	}
	var plain list
	named := map[string]any{}
	for _, kid := range t.kids[1:] {
		if kid.Kind == impl.NodeNamed {
			named[kid.Text] = s.e(p, kid.kids[0], place)
		} else {
			plain = append(plain, s.e(p, kid, place))
		}
	}
	if name, ok := f.(secondBuiltName); ok {
		return s.callBuilt(p, string(name), plain, len(named))
	}
	return s.callOwn(p, f.(*secondFunction), plain, named)
}

func (s *second) callBuilt(p *secondPack, name string, args list, named int) any {
	if named > 0 {
		panic(p.end("args"))
	}
	if slices.ContainsFunc(args, isFunction) {
		panic(p.end("type"))
	}
	if name != "files" && name != "fail" {
		return p.orEnd(secondBuilt(name, args))
	}
	if len(args) != 1 || kindOf(args[0]) != impl.AtomText {
		panic(p.end("type"))
	}
	text := args[0].(string)
	if name == "fail" {
		panic(p.end(text))
	}
	s.asked[text] = true
	found := list{}
	for _, name := range s.world.Names {
		if strings.Index(name, text) == 0 {
			found = append(found, name)
		}
	}
	return found
}

func (s *second) callOwn(p *secondPack, f *secondFunction, plain list, named map[string]any) any {
	if len(s.trace) == 30 {
		panic(p.end("deep"))
	}
	params := f.node.kids[:len(f.node.kids)-1]
	got := map[string]any{}
	wrong := len(plain) > len(params)
	for i, param := range params {
		byName, isNamed := named[param.Text]
		switch {
		case i < len(plain) && isNamed:
			wrong = true
		case i < len(plain):
			got[param.Text] = plain[i]
		case isNamed:
			got[param.Text] = byName
		case len(param.kids) == 0:
			wrong = true
		}
	}
	for name := range named {
		if !slices.ContainsFunc(params, func(param twig) bool { return param.Text == name }) {
			wrong = true
		}
	}
	if wrong {
		panic(p.end("args"))
	}
	s.trace = append(s.trace, f.pack.name+"."+f.called)
	place := f.place
	for _, param := range params {
		is, ok := got[param.Text]
		if !ok {
			is = s.e(f.pack, param.kids[0], place)
		}
		place = &frame{param.Text, is, place}
	}
	answer := s.e(f.pack, f.node.kids[len(params)], place)
	s.trace = s.trace[:len(s.trace)-1]
	return answer
}
