package tests

import (
	"fmt"
	"slices"
	"strings"
	"testing"

	"loop.example/g00306/impl"
)

// lower asks Lower twice, and fails if that writes into the source, hands out memory that is shared, or what it tells is
// not what the second way does.
func lower(t *testing.T, s impl.Source) (impl.Unit, bool) {
	t.Helper()
	full := roomy(s)
	was := deepText(full)
	u, ok := impl.Lower(full)
	again, same := impl.Lower(full)
	if deepText(full) != was {
		t.Errorf("something was written into %s", show(s))
	}
	wantFresh(t, u, full)
	wantFresh(t, u, again)
	if ok != same || unitText(u) != unitText(again) {
		t.Errorf("the first time, %v:\n%s\nthe second time, %v:\n%s", ok, unitText(u), same, unitText(again))
	}
	want, fits := "", false
	if impl.TypedOk(full) {
		want, fits = secondLowered(bared(s))
	}
	if ok != fits {
		t.Errorf("lowered: %v, the second way: %v, of %s", ok, fits, show(s))
	}
	if !ok {
		want = unitText(impl.Unit{})
	} else if fault := faultOf(u); fault != "" || !unitOk(t, u) {
		t.Errorf("no unit: %q\n%s", fault, unitText(u))
	}
	if unitText(u) != want {
		t.Errorf("lowered to\n%s\nthe second way:\n%s", unitText(u), want)
	}
	return u, ok
}

// loweredText is what a text's source comes to, which is done as the source is.
func loweredText(t *testing.T, text string) impl.Unit {
	t.Helper()
	s := wellTyped(t, text)
	u, ok := lower(t, s)
	if !ok {
		t.Fatalf("not lowered: %s", text)
	}
	for _, input := range [][]int{nil, {1}, {0, 1, 2}, {3, 2, 1, 0, 5, 4, -1, 7}, {1, 1, 1, 1, 0, 1, 1}} {
		wantAlike(t, s, u, input)
	}
	return u
}

// wantAlike fails unless the unit does what the source does: they put out the same as far as both came; and where both
// ended by themselves, they end alike. A part of a source comes to three steps of a unit at the most, so what ends soon
// as a source must do so as a unit.
func wantAlike(t *testing.T, s impl.Source, u impl.Unit, input []int) (impl.Outcome, impl.Outcome) {
	t.Helper()
	want, got := impl.Eval(s, input, impl.MaxFuel), impl.RunUnit(u, input, impl.MaxFuel)
	both := min(len(want.Out), len(got.Out))
	ok := want.End != impl.EndRefused && got.End != impl.EndRefused && got.End != impl.EndStuck
	ok = ok && slices.Equal(want.Out[:both], got.Out[:both])
	if want.End != impl.EndFuel && got.End != impl.EndFuel {
		ok = ok && want.End == got.End && want.Code == got.Code && len(want.Out) == len(got.Out)
	} else if got.End == impl.EndFuel && want.End != impl.EndFuel {
		ok = ok && 3*want.Steps+1 > impl.MaxFuel
	}
	if !ok {
		text, _ := impl.Print(bared(s))
		t.Fatalf("%s\n%s\nwith %v: %s\nthe source: %s", text, unitText(u), input, outcomeText(got), outcomeText(want))
	}
	return want, got
}

// wantUnitText fails unless a text comes to the unit with these lines.
func wantUnitText(t *testing.T, text string, want ...string) {
	t.Helper()
	if got := unitText(loweredText(t, text)); got != strings.Join(want, "\n") {
		t.Errorf("%s\ncomes to\n%s\nwant:\n%s", text, got, strings.Join(want, "\n"))
	}
}

// wantBlocks fails unless main, with these statements, comes to these blocks, a line each.
func wantBlocks(t *testing.T, heads string, stmts string, want ...string) {
	t.Helper()
	u := loweredText(t, mainText(heads, stmts))
	if got := blocksText(u.Fns[u.Main]); got != strings.Join(want, "\n") {
		t.Errorf("%s\ncomes to\n%s\nwant:\n%s", stmts, got, strings.Join(want, "\n"))
	}
}

// wantFirst is wantBlocks of the first function of a text.
func wantFirst(t *testing.T, text string, want ...string) {
	t.Helper()
	if got := blocksText(loweredText(t, text).Fns[0]); got != strings.Join(want, "\n") {
		t.Errorf("%s\ncomes to\n%s\nwant:\n%s", text, got, strings.Join(want, "\n"))
	}
}

// wantOneBlock is wantBlocks of statements that come to one block, each with the values that are wanted.
func wantOneBlock(t *testing.T, heads string, wants [][2]string) {
	t.Helper()
	for _, want := range wants {
		wantBlocks(t, heads, want[0], "b0; "+want[1])
	}
}

// unitText writes all that a unit has, so that two are written alike just where they are the same:
//
//	struct TYPE ..
//	fn TYPE .. > TYPE
//	bN V:TYPE ..; V:TYPE = WORD V ..; V = WORD V ..; jump bN V ..
//	main N
func unitText(u impl.Unit) string {
	var list []string
	for _, fields := range u.Structs {
		list = append(list, "struct"+tysText(fields))
	}
	for _, f := range u.Fns {
		list = append(list, fnHead(f.Params, f.Res))
		list = append(list, blocksText(f))
	}
	return strings.Join(append(list, fmt.Sprint("main ", u.Main)), "\n")
}

func tysText(types []impl.Ty) string {
	text := ""
	for _, ty := range types {
		text += " " + tyText(ty)
	}
	return text
}

func fnHead(params []impl.Ty, res impl.Ty) string {
	if res == (impl.Ty{}) {
		return "fn" + tysText(params)
	}
	return "fn" + tysText(params) + " > " + tyText(res)
}

// blocksText has a line for each block, and one for the values that stand in none.
func blocksText(f impl.Fn) string {
	var list []string
	count := 0
	for n, b := range f.Blocks {
		head := fmt.Sprint("b", n)
		for _, v := range b.Params {
			head += " " + valText(f, v, true)
		}
		words := []string{head}
		for _, v := range b.Code {
			words = append(words, valText(f, v, false))
		}
		count += len(b.Params) + len(b.Code)
		list = append(list, strings.Join(append(words, endOfBlock(b)), "; "))
	}
	if count != len(f.Vals) {
		list = append(list, fmt.Sprint(len(f.Vals)-count, " values stand nowhere"))
	}
	return strings.Join(list, "\n")
}

func numbersText(numbers []int) string {
	text := ""
	for _, n := range numbers {
		text += fmt.Sprint(" ", n)
	}
	return text
}

// endOfBlock writes what is too much, too, so that it is seen.
func endOfBlock(b impl.Block) string {
	word := []string{"jump", "if", "return", "panic"}[b.Term]
	text := word + numbersText(b.Args)
	for _, e := range b.Out {
		text += fmt.Sprint(" b", e.To) + numbersText(e.Args)
	}
	return text
}

// The words of the ops, in order; of those that are "" the word hangs on N.
var opWords = []string{
	"phi", "int", "float", "nil", "", "", "same", "toint", "tofloat", "len", "new", "make", "nilcheck", "indexcheck", "zerocheck", "makecheck",
	"load", "store", "get", "put", "read", "", "call",
}

func valText(f impl.Fn, n int, isParam bool) string {
	v := f.Vals[n]
	name := fmt.Sprint(n)
	if v.Ty != (impl.Ty{}) {
		name += ":" + tyText(v.Ty)
	}
	if isParam && v.Op == impl.VaPhi && v.N == 0 && len(v.Args) == 0 {
		return name
	}
	return name + " = " + opText(v) + numbersText(v.Args)
}

func opText(v impl.Val) string {
	word := opWords[v.Op]
	switch v.Op {
	case impl.VaInt, impl.VaNew, impl.VaLoad, impl.VaStore, impl.VaCall:
		return fmt.Sprint(word, " ", v.N)
	case impl.VaFloat:
		return word + " " + floatText(v.N)
	case impl.VaArith:
		return arithWords[v.N]
	case impl.VaDec:
		return decWords[v.N]
	case impl.VaPrint:
		return []string{"print", "fprint"}[v.N]
	}
	if v.N != 0 {
		return fmt.Sprint(word, " with ", v.N)
	}
	return word
}

func floatText(bits int) string {
	if f := impl.Float(bits); impl.Bits(f) == bits {
		return fmt.Sprint(f)
	}
	return fmt.Sprintf("0f%016x", uint64(bits))
}
