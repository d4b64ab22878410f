package tests

import (
	"fmt"
	"slices"
	"strings"

	"loop.example/g00306/impl"
)

// moAsm reads images from texts of lines, parted by line ends or ;
//
//	struct * . ..           a struct; * is a field that is a pointer or a list, . one that is not
//	code NAME FRAME PARAMS  a code; main is Main
//	NAME :                  where a jump may lead to
//	OP WORD ..              an instruction, its words as moForms say; behind @ the slots of its map
type moAsm struct {
	image  impl.Image
	names  []string
	labels []map[string]int
}

// moForm is an op by its word: which fields the words behind it are (A, B, C registers, N a number, K a code, L a label),
// and its N where that is the word's own.
type moForm struct {
	op    int
	words string
	n     int
}

var moForms = map[string]moForm{
	"int": {impl.MoInt, "AN", 0}, "copy": {impl.MoCopy, "AB", 0}, "load": {impl.MoLoad, "AN", 0}, "store": {impl.MoStore, "AN", 0},
	"add": {impl.MoArith, "ABC", impl.BiAdd}, "sub": {impl.MoArith, "ABC", impl.BiSub}, "mul": {impl.MoArith, "ABC", impl.BiMul},
	"div": {impl.MoArith, "ABC", impl.BiDiv}, "rem": {impl.MoArith, "ABC", impl.BiRem}, "less": {impl.MoArith, "ABC", impl.BiLess},
	"eq": {impl.MoArith, "ABC", impl.BiSame}, "fadd": {impl.MoDec, "ABC", impl.FaAdd}, "fsub": {impl.MoDec, "ABC", impl.FaSub},
	"fmul": {impl.MoDec, "ABC", impl.FaMul}, "fdiv": {impl.MoDec, "ABC", impl.FaDiv}, "fless": {impl.MoDec, "ABC", impl.FaLess},
	"feq": {impl.MoDec, "ABC", impl.FaSame}, "same": {impl.MoSame, "ABC", 0}, "toint": {impl.MoToInt, "AB", 0},
	"tofloat": {impl.MoToFloat, "AB", 0}, "len": {impl.MoLen, "AB", 0}, "new": {impl.MoNew, "AN", 0}, "ints": {impl.MoMake, "AB", 0},
	"floats": {impl.MoMake, "AB", 1}, "ptrs": {impl.MoMake, "AB", 2}, "nil": {impl.MoNil, "A", 0}, "index": {impl.MoIndex, "AB", 0},
	"zero": {impl.MoZero, "A", 0}, "size": {impl.MoSize, "A", 0}, "getf": {impl.MoGetF, "ABN", 0}, "putf": {impl.MoPutF, "ABN", 0},
	"gete": {impl.MoGetE, "ABC", 0}, "pute": {impl.MoPutE, "ABC", 0}, "read": {impl.MoRead, "A", 0}, "print": {impl.MoPrint, "A", 0},
	"printf": {impl.MoPrint, "A", 1}, "pass": {impl.MoPass, "AN", 0}, "call": {impl.MoCall, "K", 0}, "return": {impl.MoReturn, "", 0},
	"result": {impl.MoReturn, "A", 1}, "panic": {impl.MoPanic, "A", 0}, "jump": {impl.MoJump, "L", 0}, "if": {impl.MoIf, "AL", 0},
}

// machineOf is the image of a text.
func machineOf(text string) impl.Image {
	var a moAsm
	lines := moLines(text)
	for _, words := range lines {
		a.find(words)
	}
	a.image.Main = slices.Index(a.names, "main")
	code := -1
	for _, words := range lines {
		switch {
		case words[0] == "struct" || words[len(words)-1] == ":":
		case words[0] == "code":
			code++
		default:
			a.put(code, words)
		}
	}
	return a.image
}

func moLines(text string) [][]string {
	var lines [][]string
	for _, line := range strings.FieldsFunc(text, func(r rune) bool { return r == ';' || r == '\n' }) {
		if words := strings.Fields(line); len(words) > 0 {
			lines = append(lines, words)
		}
	}
	return lines
}

// find notes structs, codes and labels; of an instruction just that it is there.
func (a *moAsm) find(words []string) {
	last := len(a.image.Codes) - 1
	switch {
	case words[0] == "struct":
		fields := []bool{}
		for _, word := range words[1:] {
			fields = append(fields, word == "*")
		}
		a.image.Structs = append(a.image.Structs, fields)
	case words[0] == "code":
		a.names = append(a.names, words[1])
		a.labels = append(a.labels, map[string]int{})
		a.image.Codes = append(a.image.Codes, impl.Code{Frame: decimal(words[2]), Params: decimal(words[3])})
	case words[len(words)-1] == ":":
		a.labels[last][words[0]] = len(a.image.Codes[last].Ins)
	default:
		a.image.Codes[last].Ins = append(a.image.Codes[last].Ins, impl.Ins{Op: -1})
	}
}

// put makes the next instruction of a code that is not made yet.
func (a *moAsm) put(code int, words []string) {
	c := &a.image.Codes[code]
	pc := slices.IndexFunc(c.Ins, func(i impl.Ins) bool { return i.Op < 0 })
	var slots []int
	if n := slices.Index(words, "@"); n >= 0 {
		for _, word := range words[n+1:] {
			slots = append(slots, decimal(word))
		}
		words = words[:n]
	}
	form, ok := moForms[words[0]]
	if !ok || len(words) != 1+len(form.words) {
		panic(fmt.Sprint("no instruction: ", words))
	}
	i := impl.Ins{Op: form.op, N: form.n}
	for n, word := range words[1:] {
		switch form.words[n] {
		case 'A':
			i.A = decimal(word[1:])
		case 'B':
			i.B = decimal(word[1:])
		case 'C':
			i.C = decimal(word[1:])
		case 'N':
			i.N = decimal(word)
		case 'K':
			i.N = slices.Index(a.names, word)
		case 'L':
			i.N = a.labels[code][word]
		}
	}
	c.Ins[pc] = i
	if i.Op == impl.MoNew || i.Op == impl.MoMake || i.Op == impl.MoCall {
		c.Maps = append(c.Maps, impl.Map{Pc: pc, Slots: slots})
	}
}
