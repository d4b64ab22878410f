package tests

import (
	"fmt"
	"strings"
)

// wayMaker makes texts of sources whose variables are set all over ifs and loops that lie in one another, and are put out
// wherever they are seen.
type wayMaker struct {
	maker
	text  strings.Builder
	seen  []wayVar
	count int
	left  int
	calls int
	res   string
}

// wayVar is a variable; the counter of a loop is set by that alone, so that most loops end.
type wayVar struct {
	name    string
	ty      string
	counter bool
}

// The results of the functions ahead of main, which all have the same Params.
var wayResults = []string{"int", "float", "", "* P"}

func newWayMaker(numbers []int, first int) *wayMaker {
	return &wayMaker{maker: maker{numbers: numbers, next: first}}
}

func (m *wayMaker) put(parts ...string) {
	m.text.WriteString(strings.Join(parts, " ") + " ")
}

// source is the text of one; each function calls those ahead of it.
func (m *wayMaker) source() string {
	m.put("type P struct { a int ; n * P ; }")
	place := m.pick(len(wayResults) + 1)
	for n, res := range wayResults {
		if n == place {
			m.main()
		}
		m.calls, m.res, m.left, m.count = n, res, 5, 0
		m.seen = []wayVar{{name: "a", ty: "int"}, {name: "b", ty: "float"}, {name: "c", ty: "* P"}, {name: "d", ty: "[ ] int"}}
		m.put("func f"+fmt.Sprint(n), "( a int , b float , c * P , d [ ] int )", res, "{")
		if !m.body(3, m.pick(4) == 0) {
			m.ending(false)
		}
		m.put("}")
	}
	if place == len(wayResults) {
		m.main()
	}
	return m.text.String()
}

func (m *wayMaker) main() {
	m.calls, m.res, m.left, m.count, m.seen = len(wayResults), "", 11, 0, nil
	m.put("func main ( ) {")
	for _, ty := range []string{"int", "int", "float", "* P", "[ ] int"} {
		m.declare(ty)
	}
	if !m.body(4, true) {
		m.all()
	}
	m.put("}")
}

// body makes statements; true if the last one ends them. What they declare is seen no more behind them.
func (m *wayMaker) body(deep int, mayEnd bool) bool {
	seen := len(m.seen)
	defer func() { m.seen = m.seen[:seen:seen] }()
	for range m.pick(4) + deep/2 {
		if m.left == 0 {
			break
		}
		m.left--
		if m.stmt(deep, mayEnd) {
			return true
		}
	}
	if mayEnd && m.pick(7) == 0 {
		m.ending(true)
		return true
	}
	return false
}

// ending is what hands back something of the right type, or perhaps a panic.
func (m *wayMaker) ending(mayPanic bool) {
	switch {
	case mayPanic && m.pick(4) == 0:
		m.put("panic", m.of("int", 1), ";")
	case m.res == "":
		m.put("return ;")
	default:
		m.put("return", m.of(m.res, 2), ";")
	}
}

func (m *wayMaker) declare(ty string) {
	name := fmt.Sprint("v", m.count)
	m.count++
	m.put("var", name, ty, ";")
	m.seen = append(m.seen, wayVar{name: name, ty: ty})
}

// stmt makes one statement; true if that ends its block.
func (m *wayMaker) stmt(deep int, mayEnd bool) bool {
	kind := m.pick(12)
	if deep == 0 {
		kind = 4 + m.pick(8)
	}
	switch kind {
	case 0, 1:
		return m.choice(deep, mayEnd)
	case 2, 3:
		m.loop(deep)
	case 4:
		m.declare([]string{"int", "float", "* P", "[ ] int"}[m.pick(4)])
	case 5:
		m.put("print", m.of([]string{"int", "float"}[m.pick(2)], 2), ";")
	case 6:
		m.put(m.object(), "=", m.of("int", 2), ";")
	case 7:
		if m.calls > 0 {
			m.put("do", m.callOf(m.pick(m.calls)), ";")
		}
	default:
		m.set()
	}
	return false
}

// object is a field or a place, mostly one that is there.
func (m *wayMaker) object() string {
	return []string{m.leafOf("* P") + " . a", m.leafOf("[ ] int") + " [ 0 ]", "new P . a"}[m.pick(3)]
}

func (m *wayMaker) choice(deep int, mayEnd bool) bool {
	m.put("if", m.of("int", 2), "{")
	first := m.body(deep-1, m.pick(2) == 0)
	m.put("} else {")
	second := m.body(deep-1, m.pick(2) == 0 && (mayEnd || !first))
	m.put("}")
	return first && second
}

// loop counts, reads as long as there is something, or goes on as long as a variable likes, which may be without end.
func (m *wayMaker) loop(deep int) {
	switch m.pick(8) {
	case 0:
		m.put("for read {")
	case 1:
		m.put("for", m.of("int", 1), "{")
	default:
		name := fmt.Sprint("k", m.count)
		m.count++
		m.put("var", name, "int ; for (", name, "<", fmt.Sprint(1+m.pick(3)), ") {", name, "= (", name, "+ 1 ) ;")
		m.seen = append(m.seen, wayVar{name: name, ty: "int", counter: true})
	}
	m.body(deep-1, m.pick(4) == 0)
	m.put("}")
}

func (m *wayMaker) set() {
	v := m.seen[m.pick(len(m.seen))]
	if v.counter {
		return
	}
	m.put(v.name, "=", m.of(v.ty, 2), ";")
}

// all puts out all variables that are seen.
func (m *wayMaker) all() {
	for _, v := range m.seen {
		switch v.ty {
		case "int", "float":
			m.put("print", v.name, ";")
		case "[ ] int":
			m.put("print len (", v.name, ") ;")
		default:
			m.put("print (", v.name, "== nil P ) ;")
		}
	}
}

func (m *wayMaker) callOf(n int) string {
	return fmt.Sprintf("f%d ( %s , %s , %s , %s )", n, m.of("int", 1), m.of("float", 0), m.of("* P", 0), m.of("[ ] int", 0))
}

func (m *wayMaker) leafOf(ty string) string {
	leaves := map[string][]string{
		"int":     {"read", "1", "0", "-3"},
		"float":   {"0f3ff0000000000000", "0fbfe0000000000000"},
		"* P":     {"new P", "nil P"},
		"[ ] int": {"make [ ] int ( 2 )", "make [ ] int ( 1 )"},
	}[ty]
	for _, v := range m.seen {
		if v.ty == ty {
			leaves = append(leaves, v.name, v.name)
		}
	}
	return leaves[m.pick(len(leaves))]
}

func (m *wayMaker) of(ty string, deep int) string {
	if deep == 0 || m.pick(3) == 0 {
		return m.leafOf(ty)
	}
	if n := m.pick(2 * len(wayResults)); n < m.calls && wayResults[n] == ty {
		return m.callOf(n)
	}
	k := func(of string) string { return m.of(of, deep-1) }
	switch ty {
	case "int":
		switch m.pick(9) {
		case 0:
			return "( " + k("* P") + " == " + k("* P") + " )"
		case 1:
			return "( " + k("float") + " " + []string{"<", "=="}[m.pick(2)] + " " + k("float") + " )"
		case 2:
			return "int ( " + k("float") + " )"
		case 3:
			return "len ( " + k("[ ] int") + " )"
		case 4:
			return []string{"new P . a", k("* P") + " . a", "make [ ] int ( 2 ) [ 1 ]", k("[ ] int") + " [ 0 ]"}[m.pick(4)]
		}
		return "( " + k("int") + " " + []string{"+", "-", "*", "<", "==", "+", "/", "%"}[m.pick(8)] + " " + k("int") + " )"
	case "float":
		if m.pick(3) == 0 {
			return "float ( " + k("int") + " )"
		}
		return "( " + k("float") + " " + []string{"+", "-", "*", "/"}[m.pick(4)] + " " + k("float") + " )"
	case "* P":
		return "new P"
	}
	return "make [ ] int ( " + fmt.Sprint(m.pick(4)) + " )"
}
