package tests

import (
	"math"
	"math/big"
	"slices"

	"loop.example/g00306/impl"
)

// secondMachine runs images in another way than the program does: frames are a list, objects are things of their own
// that are found by their places, a collection first finds all, then numbers them, then puts places right. It notes what
// there is behind each step, so that one run tells what comes of any fuel.
type secondMachine struct {
	image  impl.Image
	setup  impl.Setup
	stack  map[int]int
	regs   map[int]int
	base   int
	size   int
	frames []secondFrame
	// The objects of the half that is used, in order; isOther says which half that is.
	objects []*secondObject
	byPlace map[int]*secondObject
	isOther bool
	reads   int
	safe    int
	now     impl.Result
	behind  []impl.Result
	// Whether it ended where there is no instruction.
	isPast bool
	// How often each op was done.
	ops map[int]int
}

// secondFrame is a frame: its place, its code, and the instruction behind the one at which it stands.
type secondFrame struct {
	fp, code, next int
}

// secondObject is an object; of a list number is -1, of a struct kind is.
type secondObject struct {
	place, number, kind int
	words               []int
}

// secondRun is a run of which it is told what comes of each fuel up to that of the setup.
func secondRun(m impl.Image, s impl.Setup) *secondMachine {
	r := &secondMachine{image: m, setup: s, stack: map[int]int{}, regs: map[int]int{}, base: 1, size: s.Stack, byPlace: map[int]*secondObject{}, ops: map[int]int{}}
	end := r.enter(m.Main)
	r.note()
	for end == nil {
		end = r.next()
	}
	r.now.End, r.now.Code = end.end, end.code
	return r
}

// with is what comes of the run with so much fuel.
func (r *secondMachine) with(fuel int) impl.Result {
	enough := r.now.Steps
	if r.isPast {
		enough++
	}
	if r.now.End == impl.EndFuel || fuel < enough {
		back := r.behind[fuel]
		back.End = impl.EndFuel
		return back
	}
	return r.now
}

// note keeps what there is now; what is put out later lies behind the length of what is kept.
func (r *secondMachine) note() {
	r.behind = append(r.behind, r.now)
}

func (r *secondMachine) top() *secondFrame { return &r.frames[len(r.frames)-1] }

func (r *secondMachine) next() *modelEnd {
	if r.now.Steps == r.setup.Fuel {
		return &modelEnd{end: impl.EndFuel}
	}
	top := r.top()
	if top.next >= len(r.image.Codes[top.code].Ins) {
		r.isPast = true
		return secondStuck()
	}
	i := r.image.Codes[top.code].Ins[top.next]
	top.next++
	r.now.Steps++
	r.ops[i.Op]++
	end := r.do(i)
	r.note()
	return end
}

func secondStuck() *modelEnd { return &modelEnd{end: impl.EndStuck} }

// do does an instruction. Where it looks into objects, that is by objectDo, and where frames come or go, by frameDo.
func (r *secondMachine) do(i impl.Ins) *modelEnd {
	a, b, c := r.regs[i.A], r.regs[i.B], r.regs[i.C]
	set := func(v int) *modelEnd {
		r.regs[i.A] = v
		return nil
	}
	trap := func(holds bool, code int) *modelEnd {
		if holds {
			return modelTrap(code)
		}
		return nil
	}
	switch i.Op {
	case impl.MoInt:
		return set(i.N)
	case impl.MoCopy:
		return set(b)
	case impl.MoLoad:
		return set(r.stack[r.top().fp+i.N])
	case impl.MoStore:
		r.stack[r.top().fp+i.N] = a
		return nil
	case impl.MoArith:
		v, end := modelInts(i.N, b, c)
		if end != nil {
			return secondStuck()
		}
		return set(v.(int))
	case impl.MoDec:
		return set(secondFloats(i.N, b, c))
	case impl.MoSame:
		return set(modelTruth(b == c))
	case impl.MoToInt:
		return set(modelToInt(math.Float64frombits(uint64(b))))
	case impl.MoToFloat:
		f, _ := new(big.Float).SetInt64(int64(b)).Float64()
		return set(modelBits(f))
	case impl.MoNil:
		return trap(a == 0, impl.TrapNil)
	case impl.MoZero:
		return trap(a == 0, impl.TrapZero)
	case impl.MoSize:
		return trap(a < 0 || a > 100, impl.TrapMake)
	case impl.MoRead:
		r.reads++
		if r.reads > len(r.setup.Input) {
			return set(0)
		}
		return set(r.setup.Input[r.reads-1])
	case impl.MoPrint:
		r.now.Out = append(r.now.Out, impl.Item{Kind: i.N, N: a})
		return nil
	case impl.MoPass, impl.MoCall, impl.MoReturn, impl.MoPanic, impl.MoJump, impl.MoIf:
		return r.frameDo(i, a)
	}
	return r.objectDo(i, a, b, c)
}

func secondFloats(op int, a int, b int) int {
	names := []int{impl.FaAdd: impl.BiAdd, impl.FaSub: impl.BiSub, impl.FaMul: impl.BiMul, impl.FaDiv: impl.BiDiv, impl.FaLess: impl.BiLess, impl.FaSame: impl.BiSame}
	v := modelFloats(names[op], math.Float64frombits(uint64(a)), math.Float64frombits(uint64(b)))
	if f, ok := v.(float64); ok {
		return modelBits(f)
	}
	return v.(int)
}

func (r *secondMachine) frameDo(i impl.Ins, a int) *modelEnd {
	top := r.top()
	switch i.Op {
	case impl.MoPass:
		r.stack[r.stackEnd()+3+i.N] = a
	case impl.MoCall:
		if len(r.frames) >= 60 {
			return &modelEnd{end: impl.EndDeep}
		}
		if r.oracle() == 2 {
			r.copyTo(r.size)
		}
		return r.enter(i.N)
	case impl.MoReturn:
		if i.N == 1 {
			r.regs[0] = a
		}
		if len(r.frames) == 1 {
			return &modelEnd{end: impl.EndExit}
		}
		r.frames = r.frames[:len(r.frames)-1]
	case impl.MoPanic:
		return &modelEnd{end: impl.EndPanic, code: a}
	case impl.MoIf:
		if a != 0 {
			return nil
		}
		top.next = i.N
	case impl.MoJump:
		top.next = i.N
	}
	return nil
}

// stackEnd is the word behind the last frame.
func (r *secondMachine) stackEnd() int {
	if len(r.frames) == 0 {
		return r.base
	}
	return r.top().fp + r.image.Codes[r.top().code].Frame
}

// oracle counts a safe place, and tells what is said of it.
func (r *secondMachine) oracle() int {
	r.safe++
	if r.safe > len(r.setup.Oracle) {
		return 0
	}
	return r.setup.Oracle[r.safe-1]
}

// enter puts a frame behind the last one, and writes its head and its noughts.
func (r *secondMachine) enter(code int) *modelEnd {
	c := r.image.Codes[code]
	fits := func(size int) bool { return r.stackEnd()+c.Frame+3+4 <= r.base+size }
	size := r.size
	for !fits(size) {
		size += size
	}
	if size != r.size && !r.copyTo(size) {
		return &modelEnd{end: impl.EndMemory}
	}
	fp := r.stackEnd()
	head := []int{0, 0, code}
	if len(r.frames) > 0 {
		head = []int{r.top().fp, r.top().next, code}
	}
	for n := range c.Frame {
		if n < 3 {
			r.stack[fp+n] = head[n]
		} else if n >= 3+c.Params {
			r.stack[fp+n] = 0
		}
	}
	r.frames = append(r.frames, secondFrame{fp: fp, code: code})
	return nil
}

// copyTo copies all words that count into another region, and then writes the frames' places that are in them anew.
func (r *secondMachine) copyTo(size int) bool {
	base := r.base + r.size
	if last := size; last < r.base {
		base = 1
	}
	if last := base + size - 1; last > 11999 {
		return false
	}
	shift := base - r.base
	for at, end := r.base, r.stackEnd()+3+4; at < end; at++ {
		r.stack[at+shift] = r.stack[at]
	}
	for n := range r.frames {
		r.frames[n].fp += shift
		if n > 0 {
			r.stack[r.frames[n].fp] = r.frames[n-1].fp
		}
	}
	r.base, r.size = base, size
	r.now.Copies++
	return true
}

// objectDo does what makes objects or looks into them.
func (r *secondMachine) objectDo(i impl.Ins, a int, b int, c int) *modelEnd {
	switch i.Op {
	case impl.MoNew:
		return r.take(i, &secondObject{number: i.N, kind: -1, words: make([]int, len(r.image.Structs[i.N]))})
	case impl.MoMake:
		if b < 0 || b > 100 {
			return secondStuck()
		}
		return r.take(i, &secondObject{number: -1, kind: i.N, words: make([]int, b)})
	case impl.MoLen, impl.MoIndex:
		place := b
		if i.Op == impl.MoIndex {
			place = a
		}
		count := 0
		if place != 0 {
			o := r.byPlace[place]
			if o == nil || o.kind < 0 {
				return secondStuck()
			}
			count = len(o.words)
		}
		if i.Op == impl.MoLen {
			r.regs[i.A] = count
		} else if b < 0 || b >= count {
			return modelTrap(impl.TrapIndex)
		}
		return nil
	}
	return r.wordDo(i, a, b, c)
}

// wordDo gets or puts a word of an object.
func (r *secondMachine) wordDo(i impl.Ins, a int, b int, c int) *modelEnd {
	place, at, v := b, i.N, b
	switch i.Op {
	case impl.MoPutF:
		place = a
	case impl.MoGetE:
		at = c
	case impl.MoPutE:
		place, at, v = a, b, c
	}
	o := r.byPlace[place]
	isField := i.Op == impl.MoGetF || i.Op == impl.MoPutF
	if o == nil || isField != (o.kind < 0) || at < 0 || at >= len(o.words) {
		return secondStuck()
	}
	if i.Op == impl.MoGetF || i.Op == impl.MoGetE {
		r.regs[i.A] = o.words[at]
	} else {
		o.words[at] = v
	}
	return nil
}

// half is the first word of the one that is used, or of the other one.
func (r *secondMachine) half(other bool) int {
	if r.isOther != other {
		return 12000 + r.setup.Half
	}
	return 12000
}

// free is the word behind the last object.
func (r *secondMachine) free() int {
	if len(r.objects) == 0 {
		return r.half(false)
	}
	last := r.objects[len(r.objects)-1]
	return last.place + 1 + len(last.words)
}

func (r *secondMachine) take(i impl.Ins, o *secondObject) *modelEnd {
	lacks := func() bool { return r.free()+1+len(o.words) > r.half(false)+r.setup.Half }
	if r.oracle() == 1 && !r.collect() {
		return secondStuck()
	}
	if lacks() && !r.collect() {
		return secondStuck()
	}
	if lacks() {
		return &modelEnd{end: impl.EndMemory}
	}
	o.place = r.free()
	r.objects = append(r.objects, o)
	r.byPlace[o.place] = o
	r.regs[i.A] = o.place
	return nil
}

// roots are the words of the stack that maps name, in the order in which they count.
func (r *secondMachine) roots() []int {
	var list []int
	for _, f := range slices.Backward(r.frames) {
		for _, at := range r.image.Codes[f.code].Maps {
			if at.Pc == f.next-1 {
				for _, slot := range at.Slots {
					list = append(list, f.fp+slot)
				}
			}
		}
	}
	return list
}

// inner are the places of an object's words that lead to others.
func (r *secondMachine) inner(o *secondObject) []int {
	var list []int
	for n := range o.words {
		if o.kind == 2 || o.kind < 0 && r.image.Structs[o.number][n] {
			list = append(list, n)
		}
	}
	return list
}

// collect is false where it meets what is no place.
func (r *secondMachine) collect() bool {
	r.now.Moves++
	var found []*secondObject
	places := map[int]int{0: 0}
	meet := func(word int) bool {
		o := r.byPlace[word]
		if _, ok := places[word]; !ok && o != nil {
			found = append(found, o)
			places[word] = -1
		}
		return word == 0 || o != nil
	}
	for _, at := range r.roots() {
		if !meet(r.stack[at]) {
			return false
		}
	}
	for n := 0; n < len(found); n++ {
		for _, at := range r.inner(found[n]) {
			if !meet(found[n].words[at]) {
				return false
			}
		}
	}
	next := r.half(true)
	for _, o := range found {
		places[o.place] = next
		next += 1 + len(o.words)
	}
	for _, at := range r.roots() {
		r.stack[at] = places[r.stack[at]]
	}
	r.byPlace = map[int]*secondObject{}
	for _, o := range found {
		for _, at := range r.inner(o) {
			o.words[at] = places[o.words[at]]
		}
		o.place = places[o.place]
		r.byPlace[o.place] = o
	}
	r.objects, r.isOther = found, !r.isOther
	return true
}
