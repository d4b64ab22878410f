package tests

import (
	"slices"

	"loop.example/g00306/impl"
)

// machineMaker makes images that do much before they end: all that is alive at a safe place lies in slots, each of which
// holds objects of one kind; maps name all of them. Each part takes what it needs from slots, and puts back what it makes,
// so that registers play no part between two of them. Now and then, if it is wild, an instruction is one of any sort.
type machineMaker struct {
	maker
	m      impl.Image
	wild   int
	fields [][]int
	codes  []frameKinds
	at     int
}

// The kinds of a slot or a field: a struct by its number, a list of pointers to a struct from ofPtrs on, and these.
const (
	ofNumber = -1
	ofInts   = -2
	ofFloats = -3
	ofPtrs   = 100
)

// frameKinds are the kinds of a frame's words behind its head, Params first; loops is how many loops there may still be.
type frameKinds struct {
	kinds []int
	loops int
}

func newMachineMaker(numbers []int, first int, wild int) *machineMaker {
	return &machineMaker{maker: maker{numbers: numbers, next: first}, wild: wild}
}

func (m *machineMaker) image() impl.Image {
	m.structs = 1 + m.pick(3)
	for range m.structs {
		var kinds []int
		var flags []bool
		for range m.pick(impl.MaxFields + 1) {
			kind := m.kind()
			kinds, flags = append(kinds, kind), append(flags, kind != ofNumber)
		}
		m.fields, m.m.Structs = append(m.fields, kinds), append(m.m.Structs, flags)
	}
	m.m.Codes = make([]impl.Code, 1+m.pick(4))
	m.m.Main = m.pick(len(m.m.Codes))
	m.codes = make([]frameKinds, len(m.m.Codes))
	for n := range m.codes {
		m.head(n)
	}
	for n := range m.codes {
		m.at = n
		for range 3 + m.pick(8) {
			m.part(0)
		}
		m.end()
	}
	return m.m
}

func (m *machineMaker) kind() int {
	n := m.pick(m.structs)
	return []int{ofNumber, ofNumber, n, n, ofInts, ofFloats, ofPtrs + n, ofPtrs + n}[m.pick(8)]
}

// head makes the frame of a code: its last two words are numbers, and one ahead of them is of a struct.
func (m *machineMaker) head(n int) {
	c := &m.m.Codes[n]
	if n != m.m.Main {
		c.Params = m.pick(impl.MaxParams + 1)
	}
	f := &m.codes[n]
	for range c.Params + m.pick(6) {
		f.kinds = append(f.kinds, m.kind())
	}
	f.kinds = append(f.kinds, m.pick(m.structs), ofNumber, ofNumber)
	c.Frame = impl.Head + len(f.kinds)
	f.loops = 1 + m.pick(2)
}

func (m *machineMaker) code() *impl.Code { return &m.m.Codes[m.at] }

// put adds an instruction, with a map of all slots that hold objects where it has one; and tells its place.
func (m *machineMaker) put(op int, a int, b int, c int, n int) int {
	code := m.code()
	if m.wild > 0 && m.pick(m.wild) == 0 {
		m.putAny()
	}
	code.Ins = append(code.Ins, impl.Ins{Op: op, A: a, B: b, C: c, N: n})
	pc := len(code.Ins) - 1
	if op == impl.MoNew || op == impl.MoMake || op == impl.MoCall {
		at := impl.Map{Pc: pc}
		for slot, kind := range m.codes[m.at].kinds {
			if kind != ofNumber && (m.wild == 0 || m.pick(2*m.wild) > 0) {
				at.Slots = append(at.Slots, impl.Head+slot)
			}
		}
		code.Maps = append(code.Maps, at)
	}
	return pc
}

// putAny adds an instruction that may do anything, but leads nowhere else.
func (m *machineMaker) putAny() {
	any := imageMaker{maker: m.maker, m: m.m}
	i := any.ins(m.code())
	m.next = any.next
	if slices.Contains([]int{impl.MoNew, impl.MoMake, impl.MoCall, impl.MoJump, impl.MoIf}, i.Op) {
		return
	}
	code := m.code()
	code.Ins = append(code.Ins, i)
}

// slot is one of a kind, -1 if there is none.
func (m *machineMaker) slot(kind int) int {
	var list []int
	for n, k := range m.codes[m.at].kinds {
		if k == kind {
			list = append(list, impl.Head+n)
		}
	}
	if len(list) == 0 {
		return -1
	}
	return list[m.pick(len(list))]
}

// get puts something of a kind into a register: what a slot holds, 0, or a number of any sort.
func (m *machineMaker) get(r int, kind int) {
	if slot := m.slot(kind); slot >= 0 && m.pick(6) > 0 {
		m.put(impl.MoLoad, r, 0, 0, slot)
	} else if kind == ofNumber {
		m.put(impl.MoInt, r, 0, 0, []int{0, 1, 2, 3, -1, 5, 12000, 12001, 12008, m.pick(9000), 100, 101}[m.pick(12)])
	} else {
		m.put(impl.MoInt, r, 0, 0, 0)
	}
}

// keep puts a register into a slot of that kind, if there is one.
func (m *machineMaker) keep(r int, kind int) {
	if slot := m.slot(kind); slot >= 0 {
		m.put(impl.MoStore, r, 0, 0, slot)
	}
}

// unless leaves out what is made by body where a register is 0.
func (m *machineMaker) unless(r int, body func()) {
	pc := m.put(impl.MoIf, r, 0, 0, 0)
	body()
	m.code().Ins[pc].N = len(m.code().Ins)
}

// part makes one of many things.
func (m *machineMaker) part(deep int) {
	switch m.pick(18) {
	case 0, 1, 2, 3, 4:
		m.object()
	case 5:
		m.arith()
	case 6, 7, 8:
		m.field()
	case 9, 10:
		m.element()
	case 11, 12:
		m.show()
	case 13, 14:
		m.call()
	case 15, 16:
		if deep < 2 {
			m.loop(deep)
		}
	case 17:
		if deep < 3 {
			m.get(1, ofNumber)
			m.unless(1, func() { m.part(deep + 1) })
		}
	}
}

// object makes one of the kind of some slot, and keeps it there.
func (m *machineMaker) object() {
	kinds := m.codes[m.at].kinds
	kind := kinds[m.pick(len(kinds))]
	if kind == ofNumber {
		return
	}
	if kind >= 0 && kind < ofPtrs {
		m.put(impl.MoNew, 4, 0, 0, kind)
	} else {
		m.put(impl.MoInt, 3, 0, 0, m.pick(6))
		if m.pick(3) == 0 {
			m.get(3, ofNumber)
			m.put(impl.MoSize, 3, 0, 0, 0)
		}
		m.put(impl.MoMake, 4, 3, 0, map[int]int{ofInts: 0, ofFloats: 1}[kind]+2*modelTruth(kind >= ofPtrs))
	}
	m.keep(4, kind)
}

func (m *machineMaker) arith() {
	m.get(1, ofNumber)
	m.get(2, ofNumber)
	switch m.pick(5) {
	case 0:
		m.put(impl.MoDec, 3, 1, 2, m.pick(6))
	case 1:
		m.put([]int{impl.MoToInt, impl.MoToFloat, impl.MoCopy}[m.pick(3)], 3, 1, 0, 0)
	case 2:
		m.put(impl.MoSame, 3, 1, 2, 0)
	default:
		op := m.pick(7)
		if op == impl.BiDiv || op == impl.BiRem {
			m.put(impl.MoZero, 2, 0, 0, 0)
		}
		m.put(impl.MoArith, 3, 1, 2, op)
	}
	m.keep(3, ofNumber)
}

// field gets or puts one of a struct, if that is not nil.
func (m *machineMaker) field() {
	kind := m.pick(m.structs)
	if len(m.fields[kind]) == 0 {
		return
	}
	m.get(4, kind)
	if m.pick(12) == 0 {
		m.put(impl.MoNil, 4, 0, 0, 0)
	}
	m.unless(4, func() {
		n := m.pick(len(m.fields[kind]))
		if m.pick(3) == 0 {
			m.put(impl.MoGetF, 5, 4, 0, n)
			m.keep(5, m.fields[kind][n])
			return
		}
		m.get(5, m.fields[kind][n])
		m.put(impl.MoPutF, 4, 5, 0, n)
	})
}

// element gets or puts one of a list, mostly where there is one.
func (m *machineMaker) element() {
	kind := []int{ofInts, ofFloats, ofPtrs + m.pick(m.structs), ofPtrs + m.pick(m.structs)}[m.pick(4)]
	inner := ofNumber
	if kind >= ofPtrs {
		inner = kind - ofPtrs
	}
	m.get(4, kind)
	m.put(impl.MoLen, 2, 4, 0, 0)
	m.put(impl.MoInt, 3, 0, 0, m.pick(3))
	if m.pick(25) == 0 {
		m.put(impl.MoIndex, 4, 3, 0, 0)
	}
	m.put(impl.MoArith, 1, 3, 2, impl.BiLess)
	m.unless(1, func() {
		if m.pick(3) == 0 {
			m.put(impl.MoGetE, 5, 4, 3, 0)
			m.keep(5, inner)
			return
		}
		m.get(5, inner)
		m.put(impl.MoPutE, 4, 3, 5, 0)
	})
}

// show puts out a number, or a place; or reads.
func (m *machineMaker) show() {
	if m.pick(6) == 0 {
		m.put(impl.MoRead, 6, 0, 0, 0)
		m.keep(6, ofNumber)
		return
	}
	m.get(6, m.kind())
	m.put(impl.MoPrint, 6, 0, 0, m.pick(2))
}

// call passes what the callee's Params want, now and then not all of it where these are numbers.
func (m *machineMaker) call() {
	n := m.pick(len(m.codes))
	if n <= m.at && m.pick(5) > 0 {
		return
	}
	for p := range m.m.Codes[n].Params {
		kind := m.codes[n].kinds[p]
		if kind != ofNumber || m.pick(4) > 0 {
			m.get(7, kind)
			m.put(impl.MoPass, 7, 0, 0, p)
		}
	}
	m.put(impl.MoCall, 0, 0, 0, n)
	m.keep(0, ofNumber)
}

// loop does a part some times; it counts in one of the last words of the frame.
func (m *machineMaker) loop(deep int) {
	f := &m.codes[m.at]
	if f.loops == 0 {
		return
	}
	f.loops--
	// What is counted is out of reach for all others.
	word := len(f.kinds) - 1 - f.loops
	was := f.kinds[word]
	f.kinds[word] = ofNumber
	slot := impl.Head + word
	m.put(impl.MoInt, 8, 0, 0, 1+m.pick(25))
	m.put(impl.MoStore, 8, 0, 0, slot)
	begin := len(m.code().Ins)
	for range 1 + m.pick(3) {
		m.part(deep + 1)
	}
	m.put(impl.MoLoad, 8, 0, 0, slot)
	m.put(impl.MoInt, 9, 0, 0, 1)
	m.put(impl.MoArith, 8, 8, 9, impl.BiSub)
	m.put(impl.MoStore, 8, 0, 0, slot)
	m.unless(8, func() { m.put(impl.MoJump, 0, 0, 0, begin) })
	f.kinds[word] = was
}

// end ends a code, so that all that leads behind its parts leads somewhere.
func (m *machineMaker) end() {
	switch m.pick(12) {
	case 0:
		m.get(1, ofNumber)
		m.put(impl.MoPanic, 1, 0, 0, 0)
	case 1:
		m.put(impl.MoCopy, 1, 2, 0, 0)
	default:
		m.get(1, ofNumber)
		m.put(impl.MoReturn, 1, 0, 0, m.pick(2))
	}
}

// setup is one in which much is moved.
func (m *machineMaker) setup() impl.Setup {
	s := impl.Setup{Fuel: 3000}
	s.Half = impl.MinHalf + []int{m.pick(20), m.pick(30), m.pick(60), m.pick(300), impl.MaxHalf - impl.MinHalf}[m.pick(5)]
	s.Stack = impl.MinStack + []int{0, m.pick(10), m.pick(100), impl.MaxStack - impl.MinStack}[m.pick(4)]
	for range m.pick(10) {
		s.Input = append(s.Input, m.pick(12)-2)
	}
	says := []int{0, 1, 2, 1, 2, 3, -1, 0, 0, 0}[:[]int{1, 2, 3, 5, 10}[m.pick(5)]]
	for range m.pick(100) {
		s.Oracle = append(s.Oracle, says[m.pick(len(says))])
	}
	return s
}
