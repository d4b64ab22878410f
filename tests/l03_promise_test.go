package tests

import (
	"fmt"
	"math"
	"strings"
	"testing"

	"loop.example/g00306/impl"
)

// maker makes sources of all sorts out of numbers, the same ones each time.
type maker struct {
	numbers []int
	next    int
	structs int
	parts   int
}

func newMaker(numbers []int, first int) *maker {
	return &maker{numbers: numbers, next: first}
}

// pick tells a number in 0 .. n - 1.
func (m *maker) pick(n int) int {
	m.next++
	return within(m.numbers[m.next%len(m.numbers)]>>7, n)
}

func (m *maker) name() string {
	list := []string{"a", "b", "main", "x1", "abcdefgh", "z9z9z9z9", "types", "i", "len1"}
	return list[m.pick(len(list))]
}

// ty is a type over the first structs, of which there are so many.
func (m *maker) ty(structs int) impl.Ty {
	kinds := []impl.Ty{tyInt(), tyFloat(), tyInts(), tyFloats()}
	if structs > 0 {
		kinds = append(kinds, tyPtr(m.pick(structs)), tyPtrs(m.pick(structs)))
	}
	return kinds[m.pick(len(kinds))]
}

func (m *maker) params(most int, structs int) []impl.Param {
	var list []impl.Param
	for range m.pick(most + 1) {
		list = append(list, param(m.name(), m.ty(structs)))
	}
	return list
}

func (m *maker) source() impl.Source {
	var s impl.Source
	m.structs = m.pick(impl.MaxStructs + 1)
	for n := range m.structs {
		s.Structs = append(s.Structs, structure(fmt.Sprint(string(rune('A'+m.pick(26))), "s", n), m.params(impl.MaxFields, n+1)...))
	}
	for range m.pick(impl.MaxFuncs + 1) {
		f := function(m.name(), m.params(impl.MaxParams, m.structs), impl.Ty{}, m.stmts(1)...)
		if m.pick(2) == 0 {
			f.Res = m.ty(m.structs)
		}
		s.Funcs = append(s.Funcs, f)
	}
	return s
}

func (m *maker) stmts(depth int) []impl.Stmt {
	var list []impl.Stmt
	for range m.pick(5) {
		// The room that is kept here is enough for what one statement may come to.
		if depth < impl.MaxDeep-12 && m.parts < impl.MaxNodes-220 {
			list = append(list, m.stmt(depth))
		}
	}
	return list
}

func (m *maker) stmt(depth int) impl.Stmt {
	m.parts++
	switch kind := m.pick(8); kind {
	case impl.StVar:
		return declare(m.name(), m.ty(m.structs))
	case impl.StSet:
		return set(m.left(3), m.expr(3))
	case impl.StIf:
		return choose(m.expr(3), m.stmts(depth+1), m.stmts(depth+1))
	case impl.StFor:
		return loop(m.expr(3), m.stmts(depth+1)...)
	case impl.StReturn:
		if m.pick(2) == 0 {
			return plain(kind)
		}
		return plain(kind, m.expr(3))
	case impl.StDo:
		return plain(kind, m.call(3))
	default:
		return plain(kind, m.expr(3))
	}
}

func (m *maker) left(deep int) impl.Expr {
	m.parts++
	switch m.pick(3) {
	case 0:
		return field(m.expr(deep-1), m.name())
	case 1:
		return index(m.expr(deep-1), m.expr(deep-1))
	}
	return named(m.name())
}

func (m *maker) call(deep int) impl.Expr {
	m.parts++
	var kids []impl.Expr
	for range m.pick(impl.MaxParams + 1) {
		kids = append(kids, m.expr(deep-1))
	}
	return call(m.name(), kids...)
}

func (m *maker) leaf() impl.Expr {
	ends := []int{0, 1, -1, 10, math.MaxInt, math.MinInt, m.numbers[m.next%len(m.numbers)]}
	switch m.pick(4) {
	case 0:
		return num(ends[m.pick(len(ends))])
	case 1:
		floats := append(numberBits(), noNumber)
		return impl.Expr{Kind: impl.ExFloat, N: floats[m.pick(len(floats))]}
	case 2:
		if m.structs == 0 {
			return read()
		}
		return []impl.Expr{null(m.pick(m.structs)), fresh(m.pick(m.structs))}[m.pick(2)]
	}
	return named(m.name())
}

func (m *maker) expr(deep int) impl.Expr {
	m.parts++
	if deep <= 0 {
		return m.leaf()
	}
	k := func() impl.Expr { return m.expr(deep - 1) }
	switch m.pick(9) {
	case 0:
		lists := []impl.Ty{tyInts(), tyFloats()}
		if m.structs > 0 {
			lists = append(lists, tyPtrs(m.pick(m.structs)))
		}
		return made(lists[m.pick(len(lists))], k())
	case 1:
		return m.call(deep)
	case 2:
		return m.left(deep)
	case 3:
		return size(k())
	case 4:
		return toInt(k())
	case 5:
		return toFloat(k())
	case 6, 7:
		return bin(m.pick(7), k(), k())
	}
	return m.leaf()
}

// TestManySourcesComeBack is the promise, of sources of all sorts.
func TestManySourcesComeBack(t *testing.T) {
	numbers := spread(40000)
	taken, kinds := 0, map[string]int{}
	for round := range 600 {
		s := newMaker(numbers, round*97).source()
		text, ok := printed(t, s)
		if !ok {
			if impl.Nodes(s) == 0 && countedParts(s) > 0 && countedParts(s) <= impl.MaxNodes {
				t.Errorf("refused: %s", show(s))
			}
			continue
		}
		taken++
		countKinds(s, kinds)
		wantBothWays(t, s, text)
		if back, code, at := parse(t, compact(text)); code != impl.ParseWell || at != 0 || !sameSource(back, s) {
			t.Errorf("the compact text of %q: %d at %d", text, code, at)
		}
	}
	if taken < 400 || len(kinds) != 22 {
		t.Errorf("only %d sources were taken, with these kinds: %v", taken, kinds)
	}
}

func countKinds(s impl.Source, kinds map[string]int) {
	var exprs func([]impl.Expr)
	exprs = func(list []impl.Expr) {
		for _, e := range list {
			kinds[fmt.Sprint("expression ", e.Kind)]++
			exprs(e.Kids)
		}
	}
	var stmts func([]impl.Stmt)
	stmts = func(list []impl.Stmt) {
		for _, s := range list {
			kinds[fmt.Sprint("statement ", s.Kind)]++
			exprs(s.Kids)
			stmts(s.Body)
			stmts(s.Else)
		}
	}
	for _, f := range s.Funcs {
		stmts(f.Body)
	}
}

// TestSpoiltTexts changes a token here and there: each text is told one code, with a place that holds.
func TestSpoiltTexts(t *testing.T) {
	numbers := spread(40000)
	m := newMaker(numbers, 5)
	codes := map[int]int{}
	for round := range 1500 {
		text, ok := impl.Print(newMaker(numbers, round*31).source())
		if !ok || len(text) == 0 {
			continue
		}
		spoilt := spoilTokens(m, strings.Fields(string(text)))
		s, code, at := parse(t, spoilt)
		codes[code]++
		switch code {
		case impl.ParseWell:
			wantParsedAlike(t, s, spoilt, at)
		case impl.ParseForm:
			wantPlaceThatHolds(t, spoilt, at)
		case impl.ParseByte:
			if _, bad := lex(t, spoilt); bad != at || at < 0 {
				t.Errorf("%q: the place %d, Lex says %d", spoilt, at, bad)
			}
		case impl.ParseLong:
			if at != 0 {
				t.Errorf("%q: too much, at %d", spoilt, at)
			}
		default:
			t.Errorf("%q: the code %d", spoilt, code)
		}
	}
	if codes[impl.ParseWell] < 20 || codes[impl.ParseForm] < 500 || codes[impl.ParseByte] < 50 {
		t.Errorf("not enough of each code: %v", codes)
	}
}

func spoilTokens(m *maker, tokens []string) string {
	others := strings.Fields("( ) { } [ ] , ; . * = == + - / % < x A 1 -1 0 0f3ff0000000000000 if else for var return do print nil new make len int float read type struct func ? 01 toolongword")
	for range 1 + m.pick(2) {
		at := m.pick(len(tokens))
		switch m.pick(4) {
		case 0:
			tokens[at] = others[m.pick(len(others))]
		case 1:
			tokens[at] += " " + others[m.pick(len(others))]
		case 2:
			tokens[at] = ""
		case 3:
			to := m.pick(len(tokens))
			tokens[at], tokens[to] = tokens[to], tokens[at]
		}
	}
	return strings.Join(tokens, " ")
}

// wantParsedAlike fails unless what was parsed is printed as a text that is parsed as the same.
func wantParsedAlike(t *testing.T, s impl.Source, text string, at int) {
	t.Helper()
	again, ok := printed(t, s)
	if !ok || at != 0 {
		t.Errorf("%q is parsed, at %d, as what is no source", text, at)
	}
	wantBothWays(t, s, again)
}

// wantPlaceThatHolds fails unless the place is a token's or the end, and all that stands ahead of it may stand there.
func wantPlaceThatHolds(t *testing.T, text string, at int) {
	t.Helper()
	tokens, _ := lex(t, text)
	found := at == len(text)
	for _, token := range tokens {
		found = found || token.At == at
	}
	if !found {
		t.Fatalf("%q: no token begins at %d", text, at)
	}
	if _, code, place := parse(t, text[:at]); code == impl.ParseByte || code == impl.ParseForm && place != at {
		t.Errorf("%q: what stands ahead of %d is refused by %d at %d", text, at, code, place)
	}
}

// TestSameAnswerEachTime asks twice, with other calls between.
func TestSameAnswerEachTime(t *testing.T) {
	for _, text := range []string{sampleText(), "func main ( ) { 1 = 2 ; }", "?", ""} {
		s, code, at := parse(t, text)
		parse(t, "type Other struct { }")
		impl.Print(overTwoStructs())
		again, c, a := parse(t, text)
		if c != code || a != at || !sameSource(s, again) {
			t.Errorf("%q is answered otherwise the second time", text)
		}
	}
}
