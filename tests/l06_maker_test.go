package tests

import (
	"reflect"
	"slices"

	"loop.example/g00306/impl"
)

// unitMaker makes units of all sorts that are well, out of numbers, the same ones each time.
type unitMaker struct {
	maker
	u  impl.Unit
	at int
	// Of the function that is made: which blocks are on all ways to which, the block that is filled, and which values it has.
	over  [][]bool
	block int
	own   [][]int
}

func newUnitMaker(numbers []int, first int) *unitMaker {
	return &unitMaker{maker: maker{numbers: numbers, next: first}}
}

// unit makes the heads of all functions ahead of their bodies, which may call any of them.
func (m *unitMaker) unit() impl.Unit {
	m.structs = m.pick(4)
	for range m.structs {
		m.u.Structs = append(m.u.Structs, m.tys(impl.MaxFields))
	}
	count := 1 + m.pick(4)
	m.u.Main = m.pick(count)
	for n := range count {
		var f impl.Fn
		if n != m.u.Main {
			f.Params = m.tys(impl.MaxParams)
			if m.pick(3) > 0 {
				f.Res = m.ty(m.structs)
			}
		}
		m.u.Fns = append(m.u.Fns, f)
	}
	for n := range m.u.Fns {
		m.at = n
		m.body()
	}
	return m.u
}

func (m *unitMaker) tys(most int) []impl.Ty {
	var list []impl.Ty
	for range m.pick(most + 1) {
		list = append(list, m.ty(m.structs))
	}
	return list
}

func (m *unitMaker) fn() *impl.Fn { return &m.u.Fns[m.at] }

// body makes blocks with code of all sorts.
func (m *unitMaker) body() {
	m.bodyWith(1+m.pick(9), func() {
		for range m.pick(7) {
			m.code()
		}
	})
}

// bodyWith goes through so many blocks in an order in which those that are on all ways to one come ahead of it, and fills
// each.
func (m *unitMaker) bodyWith(count int, fill func()) {
	m.ways(count)
	f := m.fn()
	m.over = onAllWays(f.Blocks)
	m.own = make([][]int, len(f.Blocks))
	m.params()
	for _, b := range reachOrder(f.Blocks) {
		m.block = b
		fill()
		m.end()
	}
	m.shuffle()
}

// ways makes blocks that all are reached: each is led to by one ahead, and by others perhaps.
func (m *unitMaker) ways(count int) {
	out := make([][]int, count)
	for b := 1; b < count; b++ {
		from := m.pick(b)
		for len(out[from]) == 2 {
			from = (from + 1) % b
		}
		out[from] = append(out[from], b)
	}
	for b := range out {
		if count > 1 && len(out[b]) < 2 && m.pick(2) == 0 {
			if to := 1 + m.pick(count-1); !slices.Contains(out[b], to) {
				out[b] = append(out[b], to)
			}
		}
		if len(out[b]) == 2 && m.pick(2) == 0 {
			slices.Reverse(out[b])
		}
	}
	m.fn().Blocks = graph(out...).Blocks
}

func reachOrder(blocks []impl.Block) []int {
	order := []int{0}
	for i := 0; i < len(order); i++ {
		for _, e := range blocks[order[i]].Out {
			if !slices.Contains(order, e.To) {
				order = append(order, e.To)
			}
		}
	}
	return order
}

// params makes those of all blocks; one to which a choice leads has none.
func (m *unitMaker) params() {
	f := m.fn()
	chosen := make([]bool, len(f.Blocks))
	for _, block := range f.Blocks {
		for _, e := range block.Out {
			chosen[e.To] = chosen[e.To] || len(block.Out) == 2
		}
	}
	for b := range f.Blocks {
		tys := m.tys(3)
		if b == 0 {
			tys = f.Params
		} else if chosen[b] {
			tys = nil
		}
		for _, ty := range tys {
			v := m.add(impl.Val{Ty: ty})
			f.Blocks[b].Params = append(f.Blocks[b].Params, v)
			m.own[b] = append(m.own[b], v)
		}
	}
}

func (m *unitMaker) add(v impl.Val) int {
	f := m.fn()
	f.Vals = append(f.Vals, v)
	return len(f.Vals) - 1
}

// put puts a value into the Code of the block.
func (m *unitMaker) put(op int, n int, ty impl.Ty, args ...int) int {
	v := m.add(impl.Val{Op: op, N: n, Ty: ty, Args: args})
	f := m.fn()
	f.Blocks[m.block].Code = append(f.Blocks[m.block].Code, v)
	m.own[m.block] = append(m.own[m.block], v)
	return v
}

// there are the values that may be used now and are of a type.
func (m *unitMaker) there(is func(impl.Ty) bool) []int {
	var list []int
	for b, own := range m.own {
		if b == m.block || m.over[m.block][b] {
			list = append(list, own...)
		}
	}
	return slices.DeleteFunc(list, func(v int) bool { return !is(m.fn().Vals[v].Ty) })
}

// need is a value of a type that may be used now: one that is there, or a new one.
func (m *unitMaker) need(ty impl.Ty) int {
	there := m.there(func(other impl.Ty) bool { return other == ty })
	if len(there) > 0 && m.pick(5) > 0 {
		return there[m.pick(len(there))]
	}
	switch ty.Kind {
	case impl.TyInt:
		if m.pick(3) == 0 {
			return m.put(impl.VaRead, 0, ty)
		}
		return m.put(impl.VaInt, []int{0, 1, 2, 3, 4, 7, -1, -3, 100, 101}[m.pick(10)], ty)
	case impl.TyFloat:
		return m.put(impl.VaFloat, floatEnds()[m.pick(len(floatEnds()))], ty)
	case impl.TyPtr:
		if m.pick(6) > 0 {
			return m.put(impl.VaNew, ty.N, ty)
		}
		return m.put(impl.VaNil, 0, ty)
	}
	if m.pick(8) == 0 {
		return m.put(impl.VaNil, 0, ty)
	}
	return m.put(impl.VaMake, 0, ty, m.put(impl.VaInt, 1+m.pick(5), tyInt()))
}

// some is a value of one of the types that are there and are so; -1 if there is none.
func (m *unitMaker) some(is func(impl.Ty) bool) int {
	there := m.there(is)
	if len(there) == 0 {
		return -1
	}
	return there[m.pick(len(there))]
}

func isPtrTy(ty impl.Ty) bool { return ty.Kind == impl.TyPtr }

// code puts in a value, with what it needs ahead of it, and mostly with its check.
func (m *unitMaker) code() {
	switch kind := m.pick(13); kind {
	case 0:
		m.arith()
	case 1:
		op := m.pick(6)
		m.put(impl.VaDec, op, decTy(op), m.need(tyFloat()), m.need(tyFloat()))
	case 2:
		m.put(impl.VaToInt, 0, tyInt(), m.need(tyFloat()))
		m.put(impl.VaToFloat, 0, tyFloat(), m.need(tyInt()))
	case 3, 4:
		n := m.pick(2)
		m.put(impl.VaPrint, n, impl.Ty{}, m.need([]impl.Ty{tyInt(), tyFloat()}[n]))
	case 5:
		m.call()
	case 6, 7, 8:
		m.field(kind)
	case 9, 10, 11:
		m.element(kind)
	case 12:
		if m.pick(12) == 0 {
			m.put([]int{impl.VaZeroCheck, impl.VaMakeCheck}[m.pick(2)], 0, impl.Ty{}, m.need(tyInt()))
		}
		size := m.need(tyInt())
		if m.pick(6) > 0 {
			size = m.put(impl.VaInt, m.pick(6), tyInt())
		}
		m.put(impl.VaMake, 0, []impl.Ty{tyInts(), tyFloats()}[m.pick(2)], size)
	}
}

func (m *unitMaker) arith() {
	op := m.pick(7)
	a, b := m.need(tyInt()), m.need(tyInt())
	if (op == impl.BiDiv || op == impl.BiRem) && m.pick(3) > 0 {
		m.put(impl.VaZeroCheck, 0, impl.Ty{}, b)
	}
	m.put(impl.VaArith, op, tyInt(), a, b)
}

func (m *unitMaker) call() {
	n := m.pick(len(m.u.Fns))
	// A function that calls itself goes deep; mostly those ahead are called.
	if n >= m.at && m.pick(6) > 0 {
		return
	}
	var args []int
	for _, ty := range m.u.Fns[n].Params {
		args = append(args, m.need(ty))
	}
	m.put(impl.VaCall, n, m.u.Fns[n].Res, args...)
}

func (m *unitMaker) field(kind int) {
	if m.structs == 0 {
		return
	}
	n := m.pick(m.structs)
	p := m.need(tyPtr(n))
	if kind == 8 {
		m.put(impl.VaSame, 0, tyInt(), p, m.need(tyPtr(n)))
		return
	}
	fields := m.u.Structs[n]
	if len(fields) == 0 {
		return
	}
	at := m.pick(len(fields))
	var v int
	if kind == 7 {
		v = m.need(fields[at])
	}
	if m.pick(4) > 0 {
		m.put(impl.VaNilCheck, 0, impl.Ty{}, p)
	}
	if kind == 7 {
		m.put(impl.VaStore, at, impl.Ty{}, p, v)
	} else {
		m.put(impl.VaLoad, at, fields[at], p)
	}
}

func (m *unitMaker) element(kind int) {
	l := m.some(isListTy)
	if l < 0 {
		l = m.need(tyInts())
	}
	ty := m.fn().Vals[l].Ty
	if kind == 11 {
		m.put(impl.VaLen, 0, tyInt(), l)
		return
	}
	at := m.need(tyInt())
	if m.pick(3) > 0 {
		at = m.put(impl.VaInt, m.pick(2), tyInt())
	}
	v := m.need(elementOf(ty))
	if m.pick(4) > 0 {
		m.put(impl.VaIndexCheck, 0, impl.Ty{}, l, at)
	}
	if kind == 9 {
		m.put(impl.VaPut, 0, impl.Ty{}, l, at, v)
	} else {
		m.put(impl.VaGet, 0, elementOf(ty), l, at)
	}
}

// end ends the block as the number of its edges wants it.
func (m *unitMaker) end() {
	f := m.fn()
	switch len(f.Blocks[m.block].Out) {
	case 0:
		if m.pick(6) == 0 {
			v := m.need(tyInt())
			f.Blocks[m.block].Term, f.Blocks[m.block].Args = impl.TmPanic, []int{v}
		} else if f.Res != (impl.Ty{}) {
			v := m.need(f.Res)
			f.Blocks[m.block].Term, f.Blocks[m.block].Args = impl.TmReturn, []int{v}
		} else {
			f.Blocks[m.block].Term = impl.TmReturn
		}
	case 1:
		edge := &f.Blocks[m.block].Out[0]
		for _, v := range f.Blocks[edge.To].Params {
			edge.Args = append(edge.Args, m.need(f.Vals[v].Ty))
		}
	case 2:
		v := m.need(tyInt())
		if m.pick(2) == 0 {
			v = m.put(impl.VaRead, 0, tyInt())
		}
		f.Blocks[m.block].Term, f.Blocks[m.block].Args = impl.TmIf, []int{v}
	}
}

// shuffle numbers values, and blocks but the first one, anew: nothing says that they stand in order.
func (m *unitMaker) shuffle() {
	f := m.fn()
	vals, blocks := m.turned(len(f.Vals), 0), m.turned(len(f.Blocks), 1)
	anew := func(list []int) []int {
		var back []int
		for _, v := range list {
			back = append(back, vals[v])
		}
		return back
	}
	g := impl.Fn{Params: f.Params, Res: f.Res, Vals: make([]impl.Val, len(f.Vals)), Blocks: make([]impl.Block, len(f.Blocks))}
	for n, v := range f.Vals {
		v.Args = anew(v.Args)
		g.Vals[vals[n]] = v
	}
	for b, block := range f.Blocks {
		block.Params, block.Code, block.Args = anew(block.Params), anew(block.Code), anew(block.Args)
		for e := range block.Out {
			block.Out[e] = impl.Edge{To: blocks[block.Out[e].To], Args: anew(block.Out[e].Args)}
		}
		g.Blocks[blocks[b]] = block
	}
	*f = g
}

// turned are the numbers up to count in another order, but for the first ones.
func (m *unitMaker) turned(count int, keep int) []int {
	list := upTo(count)
	for i := keep; i < count; i++ {
		j := i + m.pick(count-i)
		list[i], list[j] = list[j], list[i]
	}
	return list
}

// turnOne is a copy of a value in which one number or one list is another.
func turnOne[T any](m *maker, v T) T {
	back := roomy(v)
	spots := spotsOf(reflect.ValueOf(&back).Elem())
	spot := spots[m.pick(len(spots))]
	if spot.Kind() == reflect.Int {
		was := int(spot.Int())
		next := []int{was + 1, was - 1, -1, 0, 1, m.pick(5), m.pick(30), m.pick(8)}[m.pick(8)]
		spot.SetInt(int64(next))
		return back
	}
	n := spot.Len()
	switch kind := m.pick(4); {
	case kind == 0 || n == 0:
		more := reflect.New(spot.Type().Elem()).Elem()
		if n > 0 {
			more = spot.Index(m.pick(n))
		}
		spot.Set(reflect.Append(spot, more))
	case kind == 1:
		spot.Set(spot.Slice(0, n-1))
	case kind == 2:
		spot.Set(spot.Slice(1, n))
	default:
		reflect.Swapper(spot.Interface())(m.pick(n), m.pick(n))
	}
	return back
}

// spotsOf are all numbers and lists of a value.
func spotsOf(v reflect.Value) []reflect.Value {
	switch v.Kind() {
	case reflect.Bool:
		return nil
	case reflect.Int:
		return []reflect.Value{v}
	case reflect.Struct:
		var list []reflect.Value
		for i := range v.NumField() {
			list = append(list, spotsOf(v.Field(i))...)
		}
		return list
	}
	list := []reflect.Value{v}
	for i := range v.Len() {
		list = append(list, spotsOf(v.Index(i))...)
	}
	return list
}
