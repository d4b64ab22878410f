package tests

import (
	"slices"
	"strconv"
	"strings"

	"loop.example/g00306/impl"
)

// asm reads units from texts of lines, parted by line ends or ;
//
//	struct TYPE ..           a struct with these fields
//	fn NAME P:TYPE .. > TYPE a function; its Params are those of its first block, which is named begin
//	NAME P:TYPE .. :         a block
//	NAME = OP WORD ..        a value; without the name where nobody uses it
//	jump B X .. | if X B C | return | return X | panic X
//
// A type is none, int, float, *0, []int, []float, []*0. NAME:TYPE = has a type that is not the op's own. All that has a
// name may be used ahead of where it stands; #7 is the number 7, whatever that is.
type asm struct {
	unit  impl.Unit
	names []string
	fns   []asmFn
	fn    int
	block int
	count int
}

// asmFn are the numbers of what is named in a function.
type asmFn struct {
	vals   map[string]int
	blocks map[string]int
}

// unitOf is the unit of a text. It takes faults of all sorts, since what is made of them must be refused.
func unitOf(text string) impl.Unit {
	return asmOf(text).unit
}

// asmOf is the unit of a text, with the names that the text has.
func asmOf(text string) asm {
	var a asm
	var lines [][]string
	for _, line := range strings.FieldsFunc(text, func(r rune) bool { return r == ';' || r == '\n' }) {
		if words := strings.Fields(line); len(words) > 0 {
			lines = append(lines, words)
		}
	}
	for _, words := range lines {
		a.find(words)
	}
	a.fn = -1
	for _, words := range lines {
		a.put(words)
	}
	a.unit.Main = slices.Index(a.names, "main")
	return a
}

// find notes the names of a line.
func (a *asm) find(words []string) {
	switch {
	case words[0] == "struct":
		a.unit.Structs = append(a.unit.Structs, tysOf(words[1:]))
	case words[0] == "fn":
		a.findFn(words[1], words[2:])
	case words[len(words)-1] == ":":
		a.findBlock(words[0], words[1:len(words)-1])
	case !isEndWord(words[0]):
		if len(words) > 1 && words[1] == "=" {
			name, _, _ := strings.Cut(words[0], ":")
			a.fns[a.fn].vals[name] = a.count
		}
		a.count++
	}
}

func (a *asm) findFn(name string, words []string) {
	var f impl.Fn
	if n := slices.Index(words, ">"); n >= 0 {
		f.Res = tyOf(words[n+1])
		words = words[:n]
	}
	for _, word := range words {
		_, ty, _ := strings.Cut(word, ":")
		f.Params = append(f.Params, tyOf(ty))
	}
	a.fn, a.count = len(a.fns), 0
	a.names = append(a.names, name)
	a.fns = append(a.fns, asmFn{map[string]int{}, map[string]int{}})
	a.unit.Fns = append(a.unit.Fns, f)
	a.findBlock("begin", words)
}

func (a *asm) findBlock(name string, params []string) {
	f := &a.unit.Fns[a.fn]
	a.fns[a.fn].blocks[name] = len(f.Blocks)
	var block impl.Block
	for _, word := range params {
		name, _, _ := strings.Cut(word, ":")
		a.fns[a.fn].vals[name] = a.count
		block.Params = append(block.Params, a.count)
		a.count++
	}
	f.Blocks = append(f.Blocks, block)
}

func isEndWord(word string) bool {
	return slices.Contains([]string{"jump", "if", "return", "panic"}, word)
}

// put makes what a line says.
func (a *asm) put(words []string) {
	switch {
	case words[0] == "struct":
	case words[0] == "fn":
		a.fn++
		a.block = 0
		params, _, _ := strings.Cut(strings.Join(words[2:], " "), ">")
		a.putParams(strings.Fields(params))
	case words[len(words)-1] == ":":
		a.block++
		a.putParams(words[1 : len(words)-1])
	case isEndWord(words[0]):
		a.putEnd(&a.unit.Fns[a.fn].Blocks[a.block], words[0], words[1:])
	default:
		a.putVal(words)
	}
}

func (a *asm) putParams(params []string) {
	f := &a.unit.Fns[a.fn]
	for _, word := range params {
		_, ty, _ := strings.Cut(word, ":")
		f.Vals = append(f.Vals, impl.Val{Ty: tyOf(ty)})
	}
}

func (a *asm) putVal(words []string) {
	f := &a.unit.Fns[a.fn]
	block := &f.Blocks[a.block]
	block.Code = append(block.Code, len(f.Vals))
	if len(words) < 2 || words[1] != "=" {
		f.Vals = append(f.Vals, a.val(words[0], words[1:]))
		return
	}
	v := a.val(words[2], words[3:])
	if _, ty, own := strings.Cut(words[0], ":"); own {
		v.Ty = tyOf(ty)
	}
	f.Vals = append(f.Vals, v)
}

func (a *asm) putEnd(block *impl.Block, word string, rest []string) {
	switch word {
	case "jump":
		block.Out = []impl.Edge{{To: a.mark(rest[0]), Args: a.args(rest[1:])}}
	case "if":
		block.Term, block.Args = impl.TmIf, a.args(rest[:1])
		block.Out = []impl.Edge{{To: a.mark(rest[1])}, {To: a.mark(rest[2])}}
	case "return":
		block.Term, block.Args = impl.TmReturn, a.args(rest)
	case "panic":
		block.Term, block.Args = impl.TmPanic, a.args(rest)
	}
}

func (a *asm) mark(word string) int  { return numbered(a.fns[a.fn].blocks, word) }
func (a *asm) value(word string) int { return numbered(a.fns[a.fn].vals, word) }

func (a *asm) args(words []string) []int {
	var list []int
	for _, word := range words {
		list = append(list, a.value(word))
	}
	return list
}

func numbered(names map[string]int, word string) int {
	if digits, ok := strings.CutPrefix(word, "#"); ok {
		return decimal(digits)
	}
	n, ok := names[word]
	if !ok {
		panic("no such name: " + word)
	}
	return n
}

func decimal(digits string) int {
	n, err := strconv.Atoi(digits)
	if err != nil {
		panic(err)
	}
	return n
}

// The words of the ops whose N is an op itself.
var (
	arithWords = []string{"add", "sub", "mul", "div", "rem", "less", "eq"}
	decWords   = []string{"fadd", "fsub", "fmul", "fdiv", "fless", "feq"}
)

// plainWords are the ops that have Args alone, with their types.
var plainWords = map[string]impl.Val{
	"same":       {Op: impl.VaSame, Ty: tyInt()},
	"toint":      {Op: impl.VaToInt, Ty: tyInt()},
	"tofloat":    {Op: impl.VaToFloat, Ty: tyFloat()},
	"len":        {Op: impl.VaLen, Ty: tyInt()},
	"nilcheck":   {Op: impl.VaNilCheck},
	"indexcheck": {Op: impl.VaIndexCheck},
	"zerocheck":  {Op: impl.VaZeroCheck},
	"makecheck":  {Op: impl.VaMakeCheck},
	"get":        {Op: impl.VaGet},
	"put":        {Op: impl.VaPut},
	"read":       {Op: impl.VaRead, Ty: tyInt()},
	"print":      {Op: impl.VaPrint},
}

func (a *asm) val(op string, rest []string) impl.Val {
	if n := slices.Index(arithWords, op); n >= 0 {
		return impl.Val{Op: impl.VaArith, N: n, Ty: tyInt(), Args: a.args(rest)}
	}
	if n := slices.Index(decWords, op); n >= 0 {
		return impl.Val{Op: impl.VaDec, N: n, Ty: decTy(n), Args: a.args(rest)}
	}
	if v, ok := plainWords[op]; ok {
		v.Args = a.args(rest)
		return a.withFirst(v)
	}
	switch op {
	case "int":
		return impl.Val{Op: impl.VaInt, N: decimal(rest[0]), Ty: tyInt()}
	case "float":
		f, err := strconv.ParseFloat(rest[0], 64)
		if err != nil {
			panic(err)
		}
		return impl.Val{Op: impl.VaFloat, N: impl.Bits(f), Ty: tyFloat()}
	case "nil":
		return impl.Val{Op: impl.VaNil, Ty: tyOf(rest[0])}
	case "new":
		return impl.Val{Op: impl.VaNew, N: decimal(rest[0]), Ty: tyPtr(decimal(rest[0]))}
	case "make":
		return impl.Val{Op: impl.VaMake, Ty: tyOf(rest[0]), Args: a.args(rest[1:])}
	case "load":
		return a.withFirst(impl.Val{Op: impl.VaLoad, N: decimal(rest[0]), Args: a.args(rest[1:])})
	case "store":
		return impl.Val{Op: impl.VaStore, N: decimal(rest[0]), Args: a.args(rest[1:])}
	case "call":
		n := slices.Index(a.names, rest[0])
		return impl.Val{Op: impl.VaCall, N: n, Ty: a.unit.Fns[n].Res, Args: a.args(rest[1:])}
	}
	panic("no such op: " + op)
}

// decTy is the type of a VaDec.
func decTy(op int) impl.Ty {
	if op == impl.FaLess || op == impl.FaSame {
		return tyInt()
	}
	return tyFloat()
}

// withFirst puts in what hangs on the type of the first Arg, if that stands ahead.
func (a *asm) withFirst(v impl.Val) impl.Val {
	f := a.unit.Fns[a.fn]
	if len(v.Args) == 0 || v.Args[0] < 0 || v.Args[0] >= len(f.Vals) {
		return v
	}
	first := f.Vals[v.Args[0]].Ty
	switch v.Op {
	case impl.VaLoad:
		if first.Kind == impl.TyPtr && v.N < len(a.unit.Structs[first.N]) {
			v.Ty = a.unit.Structs[first.N][v.N]
		}
	case impl.VaGet:
		v.Ty = elementOf(first)
	case impl.VaPrint:
		if first == tyFloat() {
			v.N = 1
		}
	}
	return v
}

// The types that have no N, as they are written.
var plainTypes = map[string]impl.Ty{"none": {}, "int": tyInt(), "float": tyFloat(), "[]int": tyInts(), "[]float": tyFloats()}

// tyOf is the type that is written so.
func tyOf(word string) impl.Ty {
	if ty, ok := plainTypes[word]; ok {
		return ty
	}
	if n, ok := strings.CutPrefix(word, "[]*"); ok {
		return tyPtrs(decimal(n))
	}
	if n, ok := strings.CutPrefix(word, "*"); ok {
		return tyPtr(decimal(n))
	}
	panic("no such type: " + word)
}

func tysOf(words []string) []impl.Ty {
	var list []impl.Ty
	for _, word := range words {
		list = append(list, tyOf(word))
	}
	return list
}

// tyText writes a type; one that is none is written as no type is.
func tyText(ty impl.Ty) string {
	for word, plain := range plainTypes {
		if plain == ty {
			return word
		}
	}
	number := strconv.Itoa(ty.N)
	switch ty.Kind {
	case impl.TyPtr:
		return "*" + number
	case impl.TyPtrs:
		return "[]*" + number
	}
	return "?" + strconv.Itoa(ty.Kind) + "?" + number
}
