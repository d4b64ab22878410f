package tests

import (
	"fmt"
	"strings"
)

// keepMaker makes texts that keep structs and lists in variables, in fields, in elements and across calls, and put out
// what is found there. Variables are never nil, fields and elements may be.
type keepMaker struct {
	maker
	text  strings.Builder
	vars  int
	left  int
	calls int
}

// What the texts have in common; each function goes down by its first Param. Numbers such as 12000 could be places of
// objects, if they were taken for some.
const (
	keepHeads = "type P struct { i int ; n * P ; l [ ] * P ; v [ ] int ; } type Q struct { q * Q ; p * P ; f [ ] float ; } "
	keepFunc  = "func %s ( d int , p * P , l [ ] * P , r * Q ) %s { var a * P ; var b * Q ; var m [ ] * P ; var w [ ] int ; a = new P ; b = new Q ; m = make [ ] * P ( 3 ) ; w = make [ ] int ( 2 ) ; "
)

// The results of the functions ahead of main.
var keepResults = []string{"* P", "* Q", "[ ] * P"}

func newKeepMaker(numbers []int, first int) *keepMaker {
	return &keepMaker{maker: maker{numbers: numbers, next: first}}
}

func (m *keepMaker) put(parts ...string) {
	m.text.WriteString(strings.Join(parts, " ") + " ")
}

// source is the text of one; each function calls those ahead of it and itself.
func (m *keepMaker) source() string {
	m.put(keepHeads)
	for n, res := range keepResults {
		m.begin(fmt.Sprint("f", n), res, n+1, 3)
		m.put("if ( d < 1 ) { return", m.kept(res), "; } else { }")
		m.block(2)
		m.put("return", m.kept(res), "; }")
	}
	m.begin("start", "", len(keepResults), 7)
	m.block(2)
	m.block(2)
	m.put("do f0 (", fmt.Sprint(1+m.pick(3)), ", a , m , b ) ; print", m.number(), "; }")
	m.put("func main ( ) { do start ( 3 , new P , make [ ] * P ( read ) , new Q ) ; print -1 ; }")
	return m.text.String()
}

func (m *keepMaker) begin(name string, res string, calls int, left int) {
	m.put(fmt.Sprintf(keepFunc, name, res))
	m.vars, m.calls, m.left = 0, calls, left
}

func (m *keepMaker) block(deep int) {
	for range 1 + m.pick(4) {
		if m.left > 0 {
			m.left--
			m.stmt(deep)
		}
	}
}

func (m *keepMaker) stmt(deep int) {
	kind := m.pick(14)
	if deep == 0 {
		kind = 3 + m.pick(11)
	}
	switch kind {
	case 0:
		i := fmt.Sprint("i", m.vars)
		m.vars++
		m.put("var", i, "int ; for (", i, "<", fmt.Sprint(2+m.pick(9)), ") {", i, "= (", i, "+ 1 ) ;")
		m.block(deep - 1)
		m.put("}")
	case 1:
		m.put("if", m.number(), "{")
		m.block(deep - 1)
		m.put("} else {")
		m.block(deep - 1)
		m.put("}")
	case 2:
		// Where something hangs on a, a goes on to it.
		m.put("if ( a . n == nil P ) {")
		m.block(deep - 1)
		m.put("} else { a = a . n ; }")
	case 3, 4:
		m.put("print", m.number(), ";")
	case 5:
		m.put("w [", fmt.Sprint(m.pick(2)), "] =", m.number(), ";")
	case 6:
		m.put("a . i =", m.number(), ";")
	case 7:
		m.put("b . f = make [ ] float (", fmt.Sprint(m.pick(4)), ") ;")
	case 8, 9:
		v := [][2]string{{"a", "* P"}, {"b", "* Q"}, {"m", "[ ] * P"}}[m.pick(3)]
		m.put(v[0], "=", m.kept(v[1]), ";")
	case 10:
		m.put("w = make [ ] int (", fmt.Sprint(2+m.pick(9)), ") ;")
	default:
		m.hang()
	}
}

// hang puts something into a field or an element.
func (m *keepMaker) hang() {
	at := fmt.Sprint(m.pick(3))
	lefts := [][2]string{{"a . n", "* P"}, {"a . l", "[ ] * P"}, {"b . q", "* Q"}, {"b . p", "* P"}, {"m [ " + at + " ]", "* P"}, {"m [ " + at + " ]", "* P"}}
	if n := m.pick(len(lefts) + 1); n < len(lefts) {
		m.put(lefts[n][0], "=", m.any(lefts[n][1]), ";")
	} else {
		m.put("a . v = w ;")
	}
}

// kept is what is no nil.
func (m *keepMaker) kept(ty string) string {
	list := map[string][]string{
		"* P":     {"a", "a", "new P", "new P"},
		"* Q":     {"b", "b", "new Q"},
		"[ ] * P": {"m", "m", "make [ ] * P ( 3 )"},
	}[ty]
	if n := m.pick(2 * len(keepResults)); n < m.calls && keepResults[n] == ty {
		return m.callOf(n)
	}
	return list[m.pick(len(list))]
}

// any is what may be nil.
func (m *keepMaker) any(ty string) string {
	list := map[string][]string{
		"* P":     {"p", "a . n", "b . p", "m [ 1 ]", "m [ 0 ]", "nil P"},
		"* Q":     {"r", "b . q", "nil Q"},
		"[ ] * P": {"l", "a . l"},
	}[ty]
	if m.pick(2) == 0 {
		return m.kept(ty)
	}
	return list[m.pick(len(list))]
}

// callOf has further calls among its Args, so that objects are kept from one Arg to the next.
func (m *keepMaker) callOf(n int) string {
	calls := m.calls
	m.calls = min(m.calls, n)
	text := fmt.Sprintf("f%d ( ( d - 1 ) , %s , %s , %s )", n, m.any("* P"), m.any("[ ] * P"), m.any("* Q"))
	m.calls = calls
	return text
}

func (m *keepMaker) number() string {
	list := []string{
		"a . i", "w [ 0 ]", "w [ 1 ]", "d", "read", "12000", "12004", "( a . i + w [ 0 ] )", "len ( a . l )", "len ( a . v )", "len ( m )", "len ( b . f )", "len ( w )", "len ( l )",
		"( a == p )", "( a == a . n )", "( m [ 0 ] == m [ 1 ] )", "( b == b . q )", "( b . p == a )", "( m [ 2 ] == nil P )", "( r == b )", "( d * 7 )", "( w [ 1 ] - 1 )",
	}
	// What may be nil, or too short, is looked into now and then.
	if m.pick(25) == 0 {
		list = []string{"a . n . i", "m [ 1 ] . i", "b . p . i", "l [ 0 ] . i", "a . v [ 1 ]", "( 5 / a . i )", "len ( make [ ] int ( a . i ) )", "int ( b . f [ 2 ] )"}
	}
	return list[m.pick(len(list))]
}
