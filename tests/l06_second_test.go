package tests

import (
	"fmt"
	"slices"
	"strconv"

	"loop.example/g00306/impl"
)

// reachedWithout tells which blocks are reached when one is not there; -1 for none.
func reachedWithout(blocks []impl.Block, without int) []bool {
	seen := make([]bool, len(blocks))
	todo := []int{0}
	for len(todo) > 0 {
		b := todo[0]
		todo = todo[1:]
		if b == without || seen[b] {
			continue
		}
		seen[b] = true
		for _, e := range blocks[b].Out {
			todo = append(todo, e.To)
		}
	}
	return seen
}

// onAllWays tells for each block, that is reached, which others are on all ways to it: it is not reached without them.
func onAllWays(blocks []impl.Block) [][]bool {
	reached := reachedWithout(blocks, -1)
	over := make([][]bool, len(blocks))
	for b := range blocks {
		over[b] = make([]bool, len(blocks))
	}
	for other := range blocks {
		without := reachedWithout(blocks, other)
		for b := range blocks {
			over[b][other] = b != other && reached[b] && !without[b]
		}
	}
	return over
}

// secondDoms is Doms by the document's words: of all that are on all ways, the one that most others are on all ways to.
func secondDoms(f impl.Fn) []int {
	if len(f.Blocks) == 0 || len(f.Blocks) > impl.MaxBlocks {
		return nil
	}
	for _, block := range f.Blocks {
		for _, e := range block.Out {
			if e.To < 0 || e.To >= len(f.Blocks) {
				return nil
			}
		}
	}
	over := onAllWays(f.Blocks)
	counts := make([]int, len(f.Blocks))
	for b, list := range over {
		for _, is := range list {
			counts[b] += modelTruth(is)
		}
	}
	var list []int
	for b := range f.Blocks {
		best := -1
		for other, is := range over[b] {
			if is && (best < 0 || counts[other] > counts[best]) {
				best = other
			}
		}
		list = append(list, best)
	}
	return list
}

// second holds a function against the document in another way than the program does.
type second struct {
	unit impl.Unit
	fn   impl.Fn
	over [][]bool
}

// isRealTy tells whether a type is one, over so many structs.
func isRealTy(ty impl.Ty, structs int) bool {
	list := []impl.Ty{tyInt(), tyFloat(), tyInts(), tyFloats()}
	for n := range structs {
		list = append(list, tyPtr(n), tyPtrs(n))
	}
	return slices.Contains(list, ty)
}

// faultOf is what the document does not take of a unit; nothing where it takes all.
func faultOf(u impl.Unit) string {
	if len(u.Structs) > impl.MaxStructs || len(u.Fns) > impl.MaxFuncs {
		return "too many"
	}
	for _, fields := range u.Structs {
		if len(fields) > impl.MaxFields {
			return "too many fields"
		}
		for _, ty := range fields {
			if !isRealTy(ty, len(u.Structs)) {
				return "a field without a type"
			}
		}
	}
	if u.Main < 0 || u.Main >= len(u.Fns) {
		return "no main"
	}
	if f := u.Fns[u.Main]; len(f.Params) > 0 || f.Res != (impl.Ty{}) {
		return "main has Params or a Res"
	}
	for n, f := range u.Fns {
		s := second{unit: u, fn: f}
		if fault := s.headFault(); fault != "" {
			return fmt.Sprint("function ", n, ": ", fault)
		}
	}
	for n, f := range u.Fns {
		s := second{unit: u, fn: f}
		if fault := s.bodyFault(); fault != "" {
			return fmt.Sprint("function ", n, ": ", fault)
		}
	}
	return ""
}

func (s *second) headFault() string {
	if len(s.fn.Params) > impl.MaxParams || len(s.fn.Vals) > impl.MaxVals || len(s.fn.Blocks) > impl.MaxBlocks || len(s.fn.Blocks) == 0 {
		return "too many or none"
	}
	for _, ty := range s.fn.Params {
		if !isRealTy(ty, len(s.unit.Structs)) {
			return "a Param without a type"
		}
	}
	if s.fn.Res != (impl.Ty{}) && !isRealTy(s.fn.Res, len(s.unit.Structs)) {
		return "a Res that is no type"
	}
	return ""
}

func (s *second) bodyFault() string {
	for _, block := range s.fn.Blocks {
		for _, e := range block.Out {
			if e.To <= 0 || e.To >= len(s.fn.Blocks) {
				return "an edge to no block, or to block 0"
			}
		}
	}
	if slices.Contains(reachedWithout(s.fn.Blocks, -1), false) {
		return "a block that is not reached"
	}
	if fault := s.standFault(); fault != "" {
		return fault
	}
	s.over = onAllWays(s.fn.Blocks)
	if !slices.Equal(s.tys(s.fn.Blocks[0].Params), s.fn.Params) {
		return "block 0 with other Params"
	}
	for b := range s.fn.Blocks {
		if fault := s.blockFault(b); fault != "" {
			return fmt.Sprint("block ", b, ": ", fault)
		}
	}
	for n, v := range s.fn.Vals {
		if !s.rowFits(v) {
			return fmt.Sprint("the value ", n, " is not as the table says")
		}
	}
	return ""
}

// standFault counts how often each value stands as what.
func (s *second) standFault() string {
	params, code := map[int]int{}, map[int]int{}
	for _, block := range s.fn.Blocks {
		for _, v := range block.Params {
			params[v]++
		}
		for _, v := range block.Code {
			code[v]++
		}
	}
	for n, v := range s.fn.Vals {
		want := [2]int{0, 1}
		if v.Op == impl.VaPhi {
			want = [2]int{1, 0}
		}
		if [2]int{params[n], code[n]} != want {
			return fmt.Sprint("the value ", n, " does not stand just once")
		}
		delete(params, n)
		delete(code, n)
	}
	if len(params)+len(code) > 0 {
		return "what stands there is no value"
	}
	return ""
}

func (s *second) tys(values []int) []impl.Ty {
	var list []impl.Ty
	for _, v := range values {
		list = append(list, s.fn.Vals[v].Ty)
	}
	return list
}

// blockFault looks at what a block uses, with what is there in it already.
func (s *second) blockFault(b int) string {
	block := s.fn.Blocks[b]
	there := map[int]int{}
	for other, is := range s.over[b] {
		if is {
			for _, v := range append(slices.Clone(s.fn.Blocks[other].Params), s.fn.Blocks[other].Code...) {
				there[v]++
			}
		}
	}
	for _, v := range block.Params {
		there[v]++
	}
	lacks := func(list []int) bool {
		return slices.ContainsFunc(list, func(v int) bool { return there[v] == 0 || s.fn.Vals[v].Ty == impl.Ty{} })
	}
	for _, v := range block.Code {
		if lacks(s.fn.Vals[v].Args) {
			return fmt.Sprint("the value ", v, " uses what is not there")
		}
		there[v]++
	}
	for _, v := range block.Params {
		if len(s.fn.Vals[v].Args) > 0 {
			return "a parameter with Args"
		}
	}
	if lacks(block.Args) {
		return "the end uses what is not there"
	}
	for _, e := range block.Out {
		if lacks(e.Args) {
			return "an edge uses what is not there"
		}
		if !slices.Equal(s.tys(e.Args), s.tys(s.fn.Blocks[e.To].Params)) {
			return "an edge with other Args than Params"
		}
	}
	return s.endFault(block)
}

func (s *second) endFault(block impl.Block) string {
	args, out := s.tys(block.Args), len(block.Out)
	ok := false
	switch block.Term {
	case impl.TmJump:
		ok = len(args) == 0 && out == 1
	case impl.TmIf:
		ok = slices.Equal(args, []impl.Ty{tyInt()}) && out == 2 && block.Out[0].To != block.Out[1].To && len(block.Out[0].Args)+len(block.Out[1].Args) == 0
	case impl.TmReturn:
		ok = out == 0 && (s.fn.Res == impl.Ty{} && len(args) == 0 || s.fn.Res != impl.Ty{} && slices.Equal(args, []impl.Ty{s.fn.Res}))
	case impl.TmPanic:
		ok = out == 0 && slices.Equal(args, []impl.Ty{tyInt()})
	}
	if !ok {
		return "an end that may not be"
	}
	return ""
}

// rowFits holds a value whose Args are there against its row, as a text: N, the Args' types, its type.
func (s *second) rowFits(v impl.Val) bool {
	args := ""
	for _, ty := range s.tys(v.Args) {
		args += tyText(ty) + " "
	}
	return slices.Contains(s.rows(v), rowText(v.N, args, tyText(v.Ty)))
}

// rows are all texts that the table takes of an op, written out; but of an int or a float only the one with this N.
func (s *second) rows(v impl.Val) []string {
	pointers, lists := []string{}, []string{"[]int", "[]float"}
	for n := range s.unit.Structs {
		pointers = append(pointers, tyText(tyPtr(n)))
		lists = append(lists, tyText(tyPtrs(n)))
	}
	rows := append(plainRows(v), s.callRows(v)...)
	if v.Op == impl.VaPhi || v.Op == impl.VaNil {
		for _, ty := range append(pointers, lists...) {
			rows = append(rows, rowText(0, "", ty))
		}
	}
	for _, ty := range lists {
		rows = append(rows, listRows(v, ty, tyText(elementOf(tyOf(ty))))...)
	}
	for n, ty := range pointers {
		rows = append(rows, pointerRows(v, n, ty, s.unit.Structs[n])...)
	}
	return rows
}

func rowText(n int, args string, ty string) string {
	return strconv.Itoa(n) + " ; " + args + "; " + ty
}

// plainRows are those over ints and floats alone.
func plainRows(v impl.Val) []string {
	var list []string
	switch v.Op {
	case impl.VaPhi:
		return []string{rowText(0, "", "int"), rowText(0, "", "float")}
	case impl.VaInt:
		return []string{rowText(v.N, "", "int")}
	case impl.VaFloat:
		if !isNoNumber(v.N) || v.N == noNumber {
			return []string{rowText(v.N, "", "float")}
		}
	case impl.VaArith:
		for n := range 7 {
			list = append(list, rowText(n, "int int ", "int"))
		}
	case impl.VaDec:
		for n, ty := range []string{"float", "float", "float", "float", "int", "int"} {
			list = append(list, rowText(n, "float float ", ty))
		}
	case impl.VaToInt:
		return []string{rowText(0, "float ", "int")}
	case impl.VaToFloat:
		return []string{rowText(0, "int ", "float")}
	case impl.VaZeroCheck, impl.VaMakeCheck:
		return []string{rowText(0, "int ", "none")}
	case impl.VaRead:
		return []string{rowText(0, "", "int")}
	case impl.VaPrint:
		return []string{rowText(0, "int ", "none"), rowText(1, "float ", "none")}
	}
	return list
}

func (s *second) callRows(v impl.Val) []string {
	var list []string
	for n, f := range s.unit.Fns {
		args := ""
		for _, ty := range f.Params {
			args += tyText(ty) + " "
		}
		if v.Op == impl.VaCall {
			list = append(list, rowText(n, args, tyText(f.Res)))
		}
	}
	return list
}

// listRows are those of a type of lists.
func listRows(v impl.Val, ty string, element string) []string {
	switch v.Op {
	case impl.VaLen:
		return []string{rowText(0, ty+" ", "int")}
	case impl.VaMake:
		return []string{rowText(0, "int ", ty)}
	case impl.VaIndexCheck:
		return []string{rowText(0, ty+" int ", "none")}
	case impl.VaGet:
		return []string{rowText(0, ty+" int ", element)}
	case impl.VaPut:
		return []string{rowText(0, ty+" int "+element+" ", "none")}
	}
	return nil
}

// pointerRows are those of the pointer to a struct.
func pointerRows(v impl.Val, n int, ty string, fields []impl.Ty) []string {
	var list []string
	switch v.Op {
	case impl.VaSame:
		return []string{rowText(0, ty+" "+ty+" ", "int")}
	case impl.VaNew:
		return []string{rowText(n, "", ty)}
	case impl.VaNilCheck:
		return []string{rowText(0, ty+" ", "none")}
	case impl.VaLoad:
		for at, field := range fields {
			list = append(list, rowText(at, ty+" ", tyText(field)))
		}
	case impl.VaStore:
		for at, field := range fields {
			list = append(list, rowText(at, ty+" "+tyText(field)+" ", "none"))
		}
	}
	return list
}
