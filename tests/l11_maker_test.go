package tests

import (
	"math"

	"loop.example/g00306/impl"
)

// imageMaker makes images of all sorts, all of them well, out of numbers.
type imageMaker struct {
	maker
	m impl.Image
}

func newImageMaker(numbers []int, first int) *imageMaker {
	return &imageMaker{maker: maker{numbers: numbers, next: first}}
}

func (m *imageMaker) image() impl.Image {
	for range m.pick(impl.MaxStructs + 1) {
		var fields []bool
		for range m.pick(impl.MaxFields + 1) {
			fields = append(fields, m.pick(2) == 0)
		}
		m.m.Structs = append(m.m.Structs, fields)
	}
	m.m.Codes = make([]impl.Code, 1+m.pick(impl.MaxFuncs))
	m.m.Main = m.pick(len(m.m.Codes))
	for n := range m.m.Codes {
		m.m.Codes[n] = m.code(n == m.m.Main)
	}
	return m.m
}

func (m *imageMaker) code(isMain bool) impl.Code {
	var c impl.Code
	if !isMain {
		c.Params = m.pick(impl.MaxParams + 1)
	}
	least := impl.Head + c.Params
	c.Frame = least + []int{0, 1, m.pick(10), m.pick(300), impl.MaxFrame - least}[m.pick(5)]
	c.Ins = make([]impl.Ins, 1+[]int{0, m.pick(4), m.pick(40), m.pick(400)}[m.pick(4)])
	for pc := range c.Ins {
		c.Ins[pc] = m.ins(&c)
	}
	c.Maps = codeOf(0, 0, c.Ins...).Maps
	for n := range c.Maps {
		c.Maps[n].Slots = m.slots(c.Frame)
	}
	return c
}

// slots are some, all or none of a frame's.
func (m *imageMaker) slots(frame int) []int {
	var slots []int
	step := 1 + []int{0, m.pick(5), m.pick(100), m.pick(1000)}[m.pick(4)]
	for slot := impl.Head + m.pick(step); slot < frame && len(slots) < 40; slot += 1 + m.pick(step) {
		slots = append(slots, slot)
	}
	return slots
}

// ins is an instruction that has an N in that code.
func (m *imageMaker) ins(c *impl.Code) impl.Ins {
	i := impl.Ins{A: m.pick(impl.AllRegs), B: m.pick(impl.AllRegs), C: m.pick(impl.AllRegs)}
	for {
		i.Op = m.pick(impl.MoIf + 1)
		if word := nWords[i.Op]; word == "any" {
			i.N = m.number()
			return i
		} else if names := mayName(m.m, *c, word); len(names) > 0 {
			i.N = names[m.pick(len(names))]
			return i
		}
	}
}

// number is any int, those at the ends of all sizes with them.
func (m *imageMaker) number() int {
	m.next++
	whole := m.numbers[m.next%len(m.numbers)]
	return []int{0, 1, -1, math.MinInt, math.MaxInt, whole, whole >> m.pick(64), 1 << m.pick(64), -1 << m.pick(64)}[m.pick(9)]
}
