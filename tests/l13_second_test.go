package tests

import (
	"fmt"
	"slices"
	"strings"

	"loop.example/g00306/impl"
)

// secondForms are the instructions of values, as words: = is what is made, 0, 1 and 2 are the Args, N is the value's N.
var secondForms = map[int]string{
	impl.VaInt: "int = N", impl.VaFloat: "int = N", impl.VaNil: "int = N", impl.VaSame: "same = 0 1", impl.VaToInt: "toint = 0",
	impl.VaToFloat: "tofloat = 0", impl.VaLen: "len = 0", impl.VaNew: "new = N", impl.VaNilCheck: "nil 0", impl.VaIndexCheck: "index 0 1",
	impl.VaZeroCheck: "zero 0", impl.VaMakeCheck: "size 0", impl.VaLoad: "getf = 0 N", impl.VaStore: "putf 0 1 N", impl.VaGet: "gete = 0 1",
	impl.VaPut: "pute 0 1 2", impl.VaRead: "read =",
}

// secondForm is the form of a value whose op alone says which words it has, or of one whose N or type says that, too.
func secondForm(v impl.Val) string {
	switch v.Op {
	case impl.VaArith:
		return arithWords[v.N] + " = 0 1"
	case impl.VaDec:
		return decWords[v.N] + " = 0 1"
	case impl.VaMake:
		return map[int]string{impl.TyInts: "ints", impl.TyFloats: "floats", impl.TyPtrs: "ptrs"}[v.Ty.Kind] + " = 0"
	case impl.VaPrint:
		return []string{"print", "printf"}[v.N] + " 0"
	}
	return secondForms[v.Op]
}

// secondWriter emits a function in another way than the program's: as lines of a text, in which blocks have names, and
// maps stand behind their instructions.
type secondWriter struct {
	u      impl.Unit
	f      impl.Fn
	homes  []int
	across [][]int
	lines  []string
}

// secondEmit is Emit in another way than the program's.
func secondEmit(u impl.Unit) (impl.Image, bool) {
	if faultOf(u) != "" {
		return impl.Image{}, false
	}
	var text []string
	for _, fields := range u.Structs {
		line := "struct"
		for _, ty := range fields {
			line += map[bool]string{true: " *", false: " ."}[isPtrTy(ty) || isListTy(ty)]
		}
		text = append(text, line)
	}
	for n, f := range u.Fns {
		homes, ok := secondHomes(f)
		if !ok {
			return impl.Image{}, false
		}
		w := secondWriter{u: u, f: f, homes: homes, across: secondAcross(f)}
		w.write(n)
		text = append(text, w.lines...)
	}
	m := machineOf(strings.Join(text, "\n"))
	if imageFault(m) != "" {
		return impl.Image{}, false
	}
	return m, true
}

func (w *secondWriter) line(format string, words ...any) {
	w.lines = append(w.lines, fmt.Sprintf(format, words...))
}

func secondName(u impl.Unit, n int) string {
	return moName(impl.Image{Main: u.Main}, n)
}

// slotWord is the word of the frame that is the slot of that number.
func (w *secondWriter) slotWord(slot int) int { return 3 + len(w.f.Params) + slot }

// slotCount is how many slots there are: one more than the greatest.
func (w *secondWriter) slotCount() int {
	return max(0, slices.Max(append([]int{0}, w.homes...))-6+1)
}

func (w *secondWriter) write(n int) {
	temps := 0
	for _, block := range w.f.Blocks {
		for _, e := range block.Out {
			temps = max(temps, len(e.Args))
		}
	}
	w.line("code %s %d %d", secondName(w.u, n), w.slotWord(w.slotCount())+temps, len(w.f.Params))
	for at, v := range w.f.Blocks[0].Params {
		w.settle(v, fmt.Sprintf("load = %d", 3+at))
	}
	for b, block := range w.f.Blocks {
		w.line("b%d :", b)
		for _, v := range block.Code {
			if w.f.Vals[v].Op == impl.VaCall {
				w.call(v)
			} else {
				w.value(v)
			}
		}
		w.end(block)
	}
}

// fetch is the register of a value, which is loaded into another one if it has none.
func (w *secondWriter) fetch(v int, reg string) string {
	if w.homes[v] < 6 {
		return fmt.Sprint("r", w.homes[v])
	}
	w.line("load %s %d", reg, w.slotWord(w.homes[v]-6))
	return reg
}

// settle writes a line in whose place of = stands where a value is made; behind it, if that is a slot, one that stores it.
func (w *secondWriter) settle(v int, text string) {
	if w.homes[v] < 6 {
		w.line("%s", strings.Replace(text, "=", fmt.Sprint("r", w.homes[v]), 1))
		return
	}
	w.line("%s", strings.Replace(text, "=", "r15", 1))
	w.line("store r15 %d", w.slotWord(w.homes[v]-6))
}

// mapText are the slots of a safe place.
func (w *secondWriter) mapText(v int) string {
	var slots []int
	for _, other := range w.across[v] {
		if ty := w.f.Vals[other].Ty; isPtrTy(ty) || isListTy(ty) {
			slots = append(slots, w.slotWord(w.homes[other]-6))
		}
	}
	slices.Sort(slots)
	return " @ " + strings.Trim(fmt.Sprint(slots), "[]")
}

func (w *secondWriter) value(v int) {
	val := w.f.Vals[v]
	var words []string
	for _, word := range strings.Fields(secondForm(val)) {
		switch word {
		case "0":
			word = w.fetch(val.Args[0], "r12")
		case "1":
			word = w.fetch(val.Args[1], "r13")
		case "2":
			word = w.fetch(val.Args[2], "r14")
		case "N":
			word = fmt.Sprint(val.N)
		}
		words = append(words, word)
	}
	text := strings.Join(words, " ")
	if val.Op == impl.VaNew || val.Op == impl.VaMake {
		text += w.mapText(v)
	}
	if strings.Contains(text, "=") {
		w.settle(v, text)
	} else {
		w.line("%s", text)
	}
}

func (w *secondWriter) call(v int) {
	val := w.f.Vals[v]
	for at, arg := range val.Args {
		w.line("pass %s %d", w.fetch(arg, "r12"), at)
	}
	w.line("call %s%s", secondName(w.u, val.N), w.mapText(v))
	if w.homes[v] > 0 {
		w.settle(v, "copy = r0")
	}
}

func (w *secondWriter) end(block impl.Block) {
	switch block.Term {
	case impl.TmJump:
		e, temps := block.Out[0], w.slotWord(w.slotCount())
		for at, v := range e.Args {
			w.line("store %s %d", w.fetch(v, "r15"), temps+at)
		}
		for at, v := range w.f.Blocks[e.To].Params {
			w.settle(v, fmt.Sprintf("load = %d", temps+at))
		}
		w.line("jump b%d", e.To)
	case impl.TmIf:
		w.line("if %s b%d", w.fetch(block.Args[0], "r15"), block.Out[1].To)
		w.line("jump b%d", block.Out[0].To)
	case impl.TmReturn:
		if len(block.Args) == 0 {
			w.line("return")
		} else {
			w.line("result %s", w.fetch(block.Args[0], "r15"))
		}
	case impl.TmPanic:
		w.line("panic %s", w.fetch(block.Args[0], "r15"))
	}
}
