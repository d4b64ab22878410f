package tests

import (
	"fmt"
	"strings"
)

// livelyMaker makes texts of sources that do much before they end: loops count, calls go down, pointers and lists are
// mostly made ahead of their use, places mostly fit.
type livelyMaker struct {
	maker
	text  strings.Builder
	vars  int
	left  int
	calls int
}

// What the texts have in common; each function goes down by its first Param.
const (
	livelyHeads = "type P struct { i int ; f float ; n * P ; l [ ] int ; } "
	livelyFunc  = "func %s ( d int , i int , f float , p * P ) %s { var j int ; var g float ; var q * P ; var l [ ] int ; var m [ ] * P ; j = i ; g = f ; q = new P ; q . n = p ; q . l = make [ ] int ( 3 ) ; l = q . l ; m = make [ ] * P ( 3 ) ; m [ 1 ] = q ; "
)

func newLivelyMaker(numbers []int, first int) *livelyMaker {
	return &livelyMaker{maker: maker{numbers: numbers, next: first}}
}

// source is the text of one; each function calls those ahead of it and itself.
func (m *livelyMaker) source() string {
	m.text.WriteString(livelyHeads)
	for n, res := range []string{"int", "float", "* P"} {
		fmt.Fprintf(&m.text, livelyFunc, fmt.Sprint("f", n), res)
		m.vars, m.left, m.calls = 0, 4, n+1
		m.text.WriteString("if ( d < 1 ) { return " + m.leafOf(res) + " ; } else { } ")
		m.block(2)
		m.text.WriteString("return " + m.of(res, 2) + " ; } ")
	}
	fmt.Fprintf(&m.text, livelyFunc, "start", "")
	m.vars, m.left, m.calls = 0, 7, 3
	m.block(2)
	m.text.WriteString("} func main ( ) { do start ( 4 , read , float ( read ) , new P ) ; print -1 ; }")
	return m.text.String()
}

func (m *livelyMaker) block(deep int) {
	for range 2 + m.pick(4) {
		if m.left > 0 {
			m.left--
			m.stmt(deep)
		}
	}
}

func (m *livelyMaker) stmt(deep int) {
	kind := m.pick(8)
	if deep == 0 {
		kind = 4 + m.pick(4)
	}
	switch kind {
	case 0, 1:
		m.text.WriteString("if " + m.of("int", 2) + " { ")
		m.block(deep - 1)
		m.text.WriteString("} else { ")
		m.block(deep - 1)
		m.text.WriteString("} ")
	case 2:
		i := fmt.Sprint("i", m.vars)
		m.vars++
		fmt.Fprintf(&m.text, "var %s int ; for ( %s < %d ) { %s = ( %s + 1 ) ; ", i, i, 1+m.pick(3), i, i)
		m.block(deep - 1)
		m.text.WriteString("} ")
	case 3:
		m.text.WriteString("do " + m.call(m.pick(m.calls)) + " ; ")
	case 4, 5:
		m.text.WriteString("print " + m.of([]string{"int", "float"}[m.pick(2)], 3) + " ; ")
	default:
		m.set()
	}
}

func (m *livelyMaker) set() {
	lefts := [][2]string{
		{"j", "int"}, {"g", "float"}, {"q", "* P"}, {"p", "* P"}, {"i", "int"}, {"f", "float"}, {"q . i", "int"}, {"q . f", "float"}, {"q . n", "* P"}, {"p . i", "int"}, {"p . n", "* P"},
		{"l [ " + m.place() + " ]", "int"}, {"q . l [ " + m.place() + " ]", "int"}, {"m [ " + m.place() + " ]", "* P"}, {"m [ 1 ] . f", "float"}, {m.of("* P", 2) + " . i", "int"},
	}
	left := lefts[m.pick(len(lefts))]
	m.text.WriteString(left[0] + " = " + m.of(left[1], 2) + " ; ")
}

// place is that of a list of three, mostly.
func (m *livelyMaker) place() string {
	if m.pick(12) == 0 {
		return m.of("int", 1)
	}
	return fmt.Sprint(m.pick(3))
}

func (m *livelyMaker) call(n int) string {
	return fmt.Sprintf("f%d ( ( d - %d ) , %s , %s , %s )", n, 1+m.pick(2), m.of("int", 1), m.of("float", 1), m.leafOf("* P"))
}

func (m *livelyMaker) leafOf(ty string) string {
	leaves := map[string][]string{
		"int":   {"i", "j", "d", "read", "1", "-2", "7", "q . i", "len ( l )", "l [ 1 ]"},
		"float": {"f", "g", "0f3ff0000000000000", "0fbfe0000000000000", "q . f", "0f8000000000000000"},
		"* P":   {"p", "q", "q", "m [ 1 ]", "new P", "new P", "q . n"},
	}[ty]
	return leaves[m.pick(len(leaves))]
}

func (m *livelyMaker) of(ty string, deep int) string {
	if deep == 0 || m.pick(4) == 0 {
		return m.leafOf(ty)
	}
	if call := m.pick(m.calls + 6); call < m.calls && ty == []string{"int", "float", "* P"}[call] {
		return m.call(call)
	}
	k := func(of string) string { return m.of(of, deep-1) }
	switch ty {
	case "int":
		switch m.pick(6) {
		case 0:
			return "( " + k("* P") + " == " + k("* P") + " )"
		case 1:
			return "( " + k("float") + " " + []string{"<", "=="}[m.pick(2)] + " " + k("float") + " )"
		case 2:
			return "int ( " + k("float") + " )"
		case 3:
			return "l [ " + m.place() + " ]"
		}
		return "( " + k("int") + " " + []string{"+", "-", "*", "<", "==", "+", "/", "%"}[m.pick(8)] + " " + k("int") + " )"
	case "float":
		if m.pick(4) == 0 {
			return "float ( " + k("int") + " )"
		}
		return "( " + k("float") + " " + []string{"+", "-", "*", "/"}[m.pick(4)] + " " + k("float") + " )"
	}
	return m.leafOf(ty)
}
