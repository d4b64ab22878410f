package tests

import (
	"fmt"
	"maps"
	"slices"
	"strings"

	"loop.example/g00306/impl"
)

// secondLower lowers a function in another way than the program does: from the bare source, by names, with types that it
// finds out by itself, and straight into the lines of unitText.
type secondLower struct {
	source impl.Source
	types  []impl.Ty
	blocks []*secondBlock
	names  []string
	values map[string]int
	here   *secondBlock
}

// secondBlock is a line in the making; one that has an end is not open any more.
type secondBlock struct {
	number int
	head   string
	parts  []string
	end    string
}

// secondLowered is what unitText should write of a source's unit; false if a function comes to too much.
func secondLowered(s impl.Source) (string, bool) {
	var list []string
	for _, t := range s.Structs {
		list = append(list, "struct"+tysText(typesOf(t.Fields)))
	}
	begin, ok := -1, true
	for n, f := range s.Funcs {
		if string(f.Name) == "main" {
			begin = n
		}
		l := secondLower{source: s, values: map[string]int{}}
		list = append(list, fnHead(typesOf(f.Params), f.Res))
		list = append(list, l.function(f)...)
		ok = ok && len(l.types) <= impl.MaxVals && len(l.blocks) <= impl.MaxBlocks
	}
	return strings.Join(append(list, fmt.Sprint("main ", begin)), "\n"), ok
}

func typesOf(params []impl.Param) []impl.Ty {
	var list []impl.Ty
	for _, p := range params {
		list = append(list, p.Ty)
	}
	return list
}

func (l *secondLower) function(f impl.Func) []string {
	l.here = l.next()
	for _, p := range f.Params {
		l.names = append(l.names, string(p.Name))
		l.values[string(p.Name)] = l.phi(p.Ty)
	}
	l.stmts(f.Body)
	if l.here.end == "" {
		l.here.end = "return"
	}
	var list []string
	for _, b := range l.blocks {
		list = append(list, strings.Join(append(append([]string{b.head}, b.parts...), b.end), "; "))
	}
	return list
}

func (l *secondLower) next() *secondBlock {
	n := len(l.blocks)
	l.blocks = append(l.blocks, &secondBlock{number: n, head: fmt.Sprint("b", n)})
	return l.blocks[n]
}

func (l *secondLower) phi(ty impl.Ty) int {
	n := len(l.types)
	l.types = append(l.types, ty)
	l.here.head += fmt.Sprint(" ", n, ":", tyText(ty))
	return n
}

// val puts in a value of this type, or of none.
func (l *secondLower) val(ty impl.Ty, word string, args ...int) int {
	n := len(l.types)
	l.types = append(l.types, ty)
	name := fmt.Sprint(n)
	if ty.Kind != impl.TyNone {
		name += ":" + tyText(ty)
	}
	l.here.parts = append(l.here.parts, name+" = "+word+numbersText(args))
	return n
}

func (l *secondLower) stmts(list []impl.Stmt) {
	for _, s := range list {
		l.stmt(s)
	}
}

func (l *secondLower) stmt(s impl.Stmt) {
	switch s.Kind {
	case impl.StVar:
		word := map[int]string{impl.TyInt: "int 0", impl.TyFloat: "float 0"}[s.Ty.Kind]
		if word == "" {
			word = "nil"
		}
		l.values[string(s.Name)] = l.val(s.Ty, word)
		l.names = append(l.names, string(s.Name))
	case impl.StSet:
		l.set(s.Kids[0], s.Kids[1])
	case impl.StIf:
		l.choose(s)
	case impl.StFor:
		l.loop(s)
	case impl.StReturn:
		args := l.exprs(s.Kids)
		l.here.end = "return" + numbersText(args)
	case impl.StPanic:
		args := l.exprs(s.Kids)
		l.here.end = "panic" + numbersText(args)
	case impl.StDo:
		l.exprs(s.Kids)
	case impl.StPrint:
		v := l.expr(s.Kids[0])
		l.val(impl.Ty{}, map[impl.Ty]string{tyInt(): "print", tyFloat(): "fprint"}[l.types[v]], v)
	}
}

func (l *secondLower) set(left impl.Expr, right impl.Expr) {
	kids := l.exprs(left.Kids)
	v := l.expr(right)
	switch left.Kind {
	case impl.ExVar:
		l.values[string(left.Name)] = v
	case impl.ExField:
		l.val(impl.Ty{}, "nilcheck", kids[0])
		place, _ := l.fieldOf(kids[0], left.Name)
		l.val(impl.Ty{}, fmt.Sprint("store ", place), kids[0], v)
	case impl.ExIndex:
		l.val(impl.Ty{}, "indexcheck", kids[0], kids[1])
		l.val(impl.Ty{}, "put", kids[0], kids[1], v)
	}
}

// changing are the names that were declared so far and that are set in a tree of statements, in the order of the text.
func (l *secondLower) changing(trees ...[]impl.Stmt) []string {
	found := map[string]bool{}
	todo := slices.Concat(trees...)
	for len(todo) > 0 {
		s := todo[0]
		todo = slices.Concat(todo[1:], s.Body, s.Else)
		if s.Kind == impl.StSet && s.Kids[0].Kind == impl.ExVar {
			found[string(s.Kids[0].Name)] = true
		}
	}
	var list []string
	for _, name := range l.names {
		if found[name] {
			list = append(list, name)
		}
	}
	return list
}

func (l *secondLower) valuesOf(names []string) string {
	text := ""
	for _, name := range names {
		text += fmt.Sprint(" ", l.values[name])
	}
	return text
}

// meet begins a block with parameters for these variables, whose types are those of what they were.
func (l *secondLower) meet(names []string) *secondBlock {
	l.here = l.next()
	for _, name := range names {
		l.values[name] = l.phi(l.types[l.values[name]])
	}
	return l.here
}

func (l *secondLower) choose(s impl.Stmt) {
	names := l.changing(s.Body, s.Else)
	k := l.expr(s.Kids[0])
	body, other := l.next(), l.next()
	l.here.end = fmt.Sprintf("if %d b%d b%d", k, body.number, other.number)
	ahead := maps.Clone(l.values)
	l.here = body
	l.stmts(s.Body)
	bodyEnd, bodyWith := l.here, l.valuesOf(names)
	l.here, l.values = other, ahead
	l.stmts(s.Else)
	otherEnd, otherWith := l.here, l.valuesOf(names)
	bodyOpen, otherOpen := bodyEnd.end == "", otherEnd.end == ""
	if !bodyOpen && !otherOpen {
		return
	}
	behind := l.meet(names)
	if bodyOpen {
		bodyEnd.end = fmt.Sprint("jump b", behind.number, bodyWith)
	}
	if otherOpen {
		otherEnd.end = fmt.Sprint("jump b", behind.number, otherWith)
	}
}

func (l *secondLower) loop(s impl.Stmt) {
	names := l.changing(s.Body)
	ahead, with := l.here, l.valuesOf(names)
	head := l.meet(names)
	ahead.end = fmt.Sprint("jump b", head.number, with)
	k := l.expr(s.Kids[0])
	body, behind := l.next(), l.next()
	l.here.end = fmt.Sprintf("if %d b%d b%d", k, body.number, behind.number)
	asked := maps.Clone(l.values)
	l.here = body
	l.stmts(s.Body)
	if l.here.end == "" {
		l.here.end = fmt.Sprint("jump b", head.number, l.valuesOf(names))
	}
	l.here, l.values = behind, asked
}

func (l *secondLower) exprs(list []impl.Expr) []int {
	var values []int
	for _, e := range list {
		values = append(values, l.expr(e))
	}
	return values
}

// fieldOf is the place and the type of a field of what a value points to.
func (l *secondLower) fieldOf(v int, name []byte) (int, impl.Ty) {
	fields := l.source.Structs[l.types[v].N].Fields
	n := slices.IndexFunc(fields, func(p impl.Param) bool { return string(p.Name) == string(name) })
	return n, fields[n].Ty
}

func (l *secondLower) expr(e impl.Expr) int {
	kids := l.exprs(e.Kids)
	switch e.Kind {
	case impl.ExInt:
		return l.val(tyInt(), fmt.Sprint("int ", e.N))
	case impl.ExFloat:
		return l.val(tyFloat(), "float "+floatText(e.N))
	case impl.ExNil:
		return l.val(tyPtr(e.N), "nil")
	case impl.ExVar:
		return l.values[string(e.Name)]
	case impl.ExNew:
		return l.val(tyPtr(e.N), fmt.Sprint("new ", e.N))
	case impl.ExMake:
		l.val(impl.Ty{}, "makecheck", kids[0])
		return l.val(e.Ty, "make", kids[0])
	case impl.ExCall:
		n := slices.IndexFunc(l.source.Funcs, func(f impl.Func) bool { return string(f.Name) == string(e.Name) })
		return l.val(l.source.Funcs[n].Res, fmt.Sprint("call ", n), kids...)
	case impl.ExField:
		l.val(impl.Ty{}, "nilcheck", kids[0])
		place, ty := l.fieldOf(kids[0], e.Name)
		return l.val(ty, fmt.Sprint("load ", place), kids[0])
	case impl.ExIndex:
		l.val(impl.Ty{}, "indexcheck", kids[0], kids[1])
		return l.val(elementOf(l.types[kids[0]]), "get", kids[0], kids[1])
	case impl.ExLen:
		return l.val(tyInt(), "len", kids[0])
	case impl.ExToInt:
		return l.val(tyInt(), "toint", kids[0])
	case impl.ExToFloat:
		return l.val(tyFloat(), "tofloat", kids[0])
	case impl.ExRead:
		return l.val(tyInt(), "read")
	}
	return l.bin(e.N, kids[0], kids[1])
}

func (l *secondLower) bin(op int, a int, b int) int {
	switch l.types[a].Kind {
	case impl.TyPtr:
		return l.val(tyInt(), "same", a, b)
	case impl.TyFloat:
		word := map[int]string{impl.BiAdd: "fadd", impl.BiSub: "fsub", impl.BiMul: "fmul", impl.BiDiv: "fdiv", impl.BiLess: "fless", impl.BiSame: "feq"}[op]
		ty := tyFloat()
		if op == impl.BiLess || op == impl.BiSame {
			ty = tyInt()
		}
		return l.val(ty, word, a, b)
	}
	if op == impl.BiDiv || op == impl.BiRem {
		l.val(impl.Ty{}, "zerocheck", b)
	}
	word := map[int]string{impl.BiAdd: "add", impl.BiSub: "sub", impl.BiMul: "mul", impl.BiDiv: "div", impl.BiRem: "rem", impl.BiLess: "less", impl.BiSame: "eq"}[op]
	return l.val(tyInt(), word, a, b)
}
