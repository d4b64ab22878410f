package tests

import (
	"fmt"

	"loop.example/g00306/impl"
)

// typedMaker makes sources with their types, as Check should tell them, out of numbers.
type typedMaker struct {
	maker
	source impl.Source
	vars   int
	seen   []impl.Stmt
	res    impl.Ty
}

func newTypedMaker(numbers []int, first int) *typedMaker {
	return &typedMaker{maker: maker{numbers: numbers, next: first}}
}

// typedSource makes the heads of all functions ahead of their bodies, which may call any of them.
func (m *typedMaker) typedSource() impl.Source {
	m.structs = m.pick(4)
	for n := range m.structs {
		m.source.Structs = append(m.source.Structs, structure(fmt.Sprint("S", n), m.unlike("a", m.pick(impl.MaxFields+1), n+1)...))
	}
	begin := m.pick(4)
	for n := range 4 {
		f := function(fmt.Sprint("f", n), m.unlike("f", m.pick(impl.MaxParams+1), m.structs), impl.Ty{})
		if m.pick(3) > 0 {
			f.Res = m.ty(m.structs)
		}
		if n == begin {
			f = function("main", nil, impl.Ty{})
		}
		m.source.Funcs = append(m.source.Funcs, f)
	}
	for n := range m.source.Funcs {
		m.body(&m.source.Funcs[n])
	}
	return m.source
}

// unlike are params or fields whose names are unlike; what else is in the source has these names, too.
func (m *typedMaker) unlike(letter string, count int, structs int) []impl.Param {
	var list []impl.Param
	for n := range count {
		list = append(list, param(fmt.Sprint(letter, (n*3+count)%5), m.ty(structs)))
	}
	return list
}

func (m *typedMaker) body(f *impl.Func) {
	m.vars, m.seen, m.res = 0, nil, f.Res
	for _, p := range f.Params {
		m.seen = append(m.seen, declared(string(p.Name), p.Ty, m.vars))
		m.vars++
	}
	end := mayEnd
	if f.Res.Kind != impl.TyNone {
		end = mustEnd
	}
	f.Body = m.typedBlock(3, end)
}

// How a block's last statement may be.
const (
	neverEnds = iota
	mayEnd
	mustEnd
)

// typedBlock makes statements; what they declare is seen no more behind them.
func (m *typedMaker) typedBlock(deep int, end int) []impl.Stmt {
	seen := len(m.seen)
	var list []impl.Stmt
	for range m.pick(5) {
		if m.parts < impl.MaxNodes/2 {
			list = append(list, m.typedStmt(deep))
		}
	}
	if end == mustEnd || end == mayEnd && m.pick(6) == 0 {
		list = append(list, m.ending(deep))
	}
	m.seen = m.seen[:seen:seen]
	return list
}

func (m *typedMaker) ending(deep int) impl.Stmt {
	m.parts++
	switch m.pick(4) {
	case 0:
		return plain(impl.StPanic, m.of(tyInt(), 2))
	case 1:
		if deep > 0 {
			k := m.of(tyInt(), 2)
			body := m.typedBlock(deep-1, mustEnd)
			return choose(k, body, m.typedBlock(deep-1, mustEnd))
		}
	}
	if m.res.Kind == impl.TyNone {
		return plain(impl.StReturn)
	}
	return plain(impl.StReturn, m.of(m.res, 2))
}

// typedStmt makes a statement that does not end its block.
func (m *typedMaker) typedStmt(deep int) impl.Stmt {
	m.parts++
	switch m.pick(8) {
	case 0, 1:
		s := declared(fmt.Sprint("f", 5+m.vars), m.ty(m.structs), m.vars)
		m.vars++
		m.seen = append(m.seen, s)
		return s
	case 2:
		if deep > 0 {
			k := m.of(tyInt(), 2)
			// One of both that does not end keeps the whole from ending.
			ends := [][2]int{{neverEnds, mayEnd}, {mayEnd, neverEnds}}[m.pick(2)]
			body := m.typedBlock(deep-1, ends[0])
			return choose(k, body, m.typedBlock(deep-1, ends[1]))
		}
	case 3:
		if deep > 0 {
			k := m.of(tyInt(), 2)
			return loop(k, m.typedBlock(deep-1, mayEnd)...)
		}
	case 4:
		return plain(impl.StDo, m.callOf(m.pick(len(m.source.Funcs)), 2))
	case 5, 6:
		return m.typedSet()
	}
	return plain(impl.StPrint, m.of([]impl.Ty{tyInt(), tyFloat()}[m.pick(2)], 3))
}

// typedSet sets what of is asked for until it is something that can be set.
func (m *typedMaker) typedSet() impl.Stmt {
	ty := m.ty(m.structs)
	for range 8 {
		if left := m.of(ty, 3); left.Kind == impl.ExVar || left.Kind == impl.ExField || left.Kind == impl.ExIndex {
			return set(left, m.of(ty, 3))
		}
	}
	return plain(impl.StPrint, m.of(tyInt(), 2))
}

func (m *typedMaker) callOf(n int, deep int) impl.Expr {
	m.parts++
	f := m.source.Funcs[n]
	var kids []impl.Expr
	for _, p := range f.Params {
		kids = append(kids, m.of(p.Ty, deep-1))
	}
	return typed(call(string(f.Name), kids...), f.Res, n)
}

// of makes an expression of this type.
func (m *typedMaker) of(ty impl.Ty, deep int) impl.Expr {
	m.parts++
	ways := m.leaves(ty)
	if deep > 0 {
		ways = append(ways, m.trees(ty, deep-1)...)
		ways = append(ways, m.ownTrees(ty, deep-1)...)
	}
	return ways[m.pick(len(ways))]()
}

func (m *typedMaker) leaves(ty impl.Ty) []func() impl.Expr {
	var ways []func() impl.Expr
	for _, s := range m.seen {
		if s.Ty == ty {
			ways = append(ways, func() impl.Expr { return typed(named(string(s.Name)), ty, s.N) })
		}
	}
	switch ty.Kind {
	case impl.TyInt:
		ways = append(ways, func() impl.Expr { return ofTy(num(m.pick(9)-3), ty) }, func() impl.Expr { return ofTy(read(), ty) })
	case impl.TyFloat:
		ways = append(ways, func() impl.Expr { return ofTy(float(float64(m.pick(9))/2-1), ty) })
	case impl.TyPtr:
		ways = append(ways, func() impl.Expr { return ofTy(null(ty.N), ty) }, func() impl.Expr { return ofTy(fresh(ty.N), ty) })
	default:
		ways = append(ways, func() impl.Expr { return made(ty, ofTy(num(m.pick(9)), tyInt())) })
	}
	return ways
}

// trees are what may be of any type: calls, fields, what stands in lists.
func (m *typedMaker) trees(ty impl.Ty, deep int) []func() impl.Expr {
	var ways []func() impl.Expr
	for n, f := range m.source.Funcs {
		if f.Res == ty {
			ways = append(ways, func() impl.Expr { return m.callOf(n, deep) })
		}
	}
	for n, s := range m.source.Structs {
		for place, f := range s.Fields {
			if f.Ty == ty {
				ways = append(ways, func() impl.Expr { return typed(field(m.of(tyPtr(n), deep), string(f.Name)), ty, place) })
			}
		}
	}
	lists := []impl.Ty{tyInts(), tyFloats()}
	for n := range m.structs {
		lists = append(lists, tyPtrs(n))
	}
	for _, list := range lists {
		if elementOf(list) == ty {
			ways = append(ways, func() impl.Expr {
				k := m.of(list, deep)
				return ofTy(index(k, m.of(tyInt(), deep)), ty)
			})
		}
	}
	return ways
}

// ownTrees are what is of this kind of type alone.
func (m *typedMaker) ownTrees(ty impl.Ty, deep int) []func() impl.Expr {
	two := func(op int, kind impl.Ty) impl.Expr {
		k := m.of(kind, deep)
		return ofTy(bin(op, k, m.of(kind, deep)), ty)
	}
	switch ty.Kind {
	case impl.TyInt:
		ways := []func() impl.Expr{
			func() impl.Expr { return two(m.pick(7), tyInt()) },
			func() impl.Expr { return two(impl.BiLess+m.pick(2), tyFloat()) },
			func() impl.Expr { return ofTy(toInt(m.of(tyFloat(), deep)), ty) },
			func() impl.Expr {
				return ofTy(size(m.of([]impl.Ty{tyInts(), tyFloats()}[m.pick(2)], deep)), ty)
			},
		}
		if m.structs > 0 {
			ways = append(ways, func() impl.Expr { return two(impl.BiSame, tyPtr(m.pick(m.structs))) }, func() impl.Expr { return ofTy(size(m.of(tyPtrs(m.pick(m.structs)), deep)), ty) })
		}
		return ways
	case impl.TyFloat:
		return []func() impl.Expr{
			func() impl.Expr { return two(m.pick(4), tyFloat()) },
			func() impl.Expr { return ofTy(toFloat(m.of(tyInt(), deep)), ty) },
		}
	case impl.TyPtr:
		return nil
	}
	return []func() impl.Expr{func() impl.Expr { return made(ty, m.of(tyInt(), deep)) }}
}
