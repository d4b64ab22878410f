package tests

import (
	"fmt"
	"math"
	"slices"
	"strings"
	"testing"

	"loop.example/g00306/impl"
)

// rowUnitText has a value of each type, and one without, in main; the last value of main's Code is turned into others.
const rowUnitText = `struct int float *0 *1 []*1
struct float []int
fn none; return
fn two x:int y:*1 > float; f = float 1; return f
fn main; i = int 1; f = float 1; a = nil *0; b = nil *1; is = nil []int; fs = nil []float; as = nil []*0; bs = nil []*1; no = zerocheck i
last = read
return`

// rowNames are the operands of rowUnitText by their numbers.
var rowNames = []string{"i", "f", "a", "b", "is", "fs", "as", "bs", "no"}

// rowNumbers are the N that are tried with each value.
var rowNumbers = []int{math.MinInt, -1, 0, 1, 2, 3, 4, 5, 6, 7, 8, noNumber, noNumber + 1, math.MaxInt}

// rowGoldens are all values that may be the last one: the Args, the type, and which N of those that are tried.
var rowGoldens = map[int]map[string][]int{
	impl.VaInt:        {"> int": rowNumbers},
	impl.VaFloat:      {"> float": {math.MinInt, 0, 1, 2, 3, 4, 5, 6, 7, 8, noNumber}},
	impl.VaNil:        {"> *0": {0}, "> *1": {0}, "> []int": {0}, "> []float": {0}, "> []*0": {0}, "> []*1": {0}},
	impl.VaArith:      {"i i > int": {0, 1, 2, 3, 4, 5, 6}},
	impl.VaDec:        {"f f > float": {0, 1, 2, 3}, "f f > int": {4, 5}},
	impl.VaSame:       {"a a > int": {0}, "b b > int": {0}},
	impl.VaToInt:      {"f > int": {0}},
	impl.VaToFloat:    {"i > float": {0}},
	impl.VaLen:        {"is > int": {0}, "fs > int": {0}, "as > int": {0}, "bs > int": {0}},
	impl.VaNew:        {"> *0": {0}, "> *1": {1}},
	impl.VaMake:       {"i > []int": {0}, "i > []float": {0}, "i > []*0": {0}, "i > []*1": {0}},
	impl.VaNilCheck:   {"a > none": {0}, "b > none": {0}},
	impl.VaIndexCheck: {"is i > none": {0}, "fs i > none": {0}, "as i > none": {0}, "bs i > none": {0}},
	impl.VaZeroCheck:  {"i > none": {0}},
	impl.VaMakeCheck:  {"i > none": {0}},
	impl.VaLoad:       {"a > int": {0}, "a > float": {1}, "a > *0": {2}, "a > *1": {3}, "a > []*1": {4}, "b > float": {0}, "b > []int": {1}},
	impl.VaStore:      {"a i > none": {0}, "a f > none": {1}, "a a > none": {2}, "a b > none": {3}, "a bs > none": {4}, "b f > none": {0}, "b is > none": {1}},
	impl.VaGet:        {"is i > int": {0}, "fs i > float": {0}, "as i > *0": {0}, "bs i > *1": {0}},
	impl.VaPut:        {"is i i > none": {0}, "fs i f > none": {0}, "as i a > none": {0}, "bs i b > none": {0}},
	impl.VaRead:       {"> int": {0}},
	impl.VaPrint:      {"i > none": {0}, "f > none": {1}},
	impl.VaCall:       {"> none": {0, 2}, "i b > float": {1}},
}

// rowKey writes Args and a type as the goldens have them.
func rowKey(args []int, ty impl.Ty) string {
	text := ""
	for _, v := range args {
		text += rowNames[v] + " "
	}
	return text + "> " + tyText(ty)
}

// argLists are all lists of up to most operands.
func argLists(most int) [][]int {
	lists := [][]int{nil}
	for from, n := 0, 0; n < most; n++ {
		to := len(lists)
		for _, list := range lists[from:to] {
			for v := range rowNames {
				lists = append(lists, append(slices.Clone(list), v))
			}
		}
		from = to
	}
	return lists
}

// rowOps are all ops, and some that are none.
func rowOps() []int {
	return append(upTo(impl.VaCall+1), -1, impl.VaCall+1, 99, math.MinInt, math.MaxInt)
}

// TestRowsOfTheTable tries all Args and types with each op, and takes just the goldens.
func TestRowsOfTheTable(t *testing.T) {
	u := unitOf(rowUnitText)
	last := &u.Fns[2].Vals[len(rowNames)]
	types := append(append(realTypes(), noTypes()...), impl.Ty{})
	tried, taken := 0, 0
	for _, op := range rowOps() {
		golden := rowGoldens[op]
		numbers := []int{0, 1}
		for _, list := range golden {
			numbers = append(numbers, list[0], list[len(list)-1])
		}
		slices.Sort(numbers)
		for _, args := range argLists(3) {
			for _, ty := range types {
				key := rowKey(args, ty)
				for _, n := range slices.Compact(slices.Clone(numbers)) {
					*last = impl.Val{Op: op, N: n, Ty: ty, Args: args}
					want := slices.Contains(golden[key], n)
					if impl.UnitOk(u) != want {
						t.Fatalf("op %d, N %d, %s: %v", op, n, key, !want)
					}
					tried, taken = tried+1, taken+modelTruth(want)
				}
			}
		}
	}
	t.Logf("%d of %d are taken", taken, tried)
}

// TestNumbersOfTheTable tries all N with what is right else, and with one thing turned; the second way has a say there.
func TestNumbersOfTheTable(t *testing.T) {
	for op, golden := range rowGoldens {
		for key, numbers := range golden {
			words, ty, _ := strings.Cut(key, "> ")
			var args []int
			for _, word := range strings.Fields(words) {
				args = append(args, slices.Index(rowNames, word))
			}
			for _, n := range rowNumbers {
				v := impl.Val{Op: op, N: n, Ty: tyOf(ty), Args: args}
				wantRow(t, v, slices.Contains(numbers, n))
			}
			v := impl.Val{Op: op, N: numbers[0], Ty: tyOf(ty), Args: args}
			wantTurnedRows(t, v)
		}
	}
}

// wantRow fails unless a value is taken, or refused, behind the operands.
func wantRow(t *testing.T, v impl.Val, want bool) {
	t.Helper()
	u := unitOf(rowUnitText)
	u.Fns[2].Vals[len(rowNames)] = v
	wantUnit(t, fmt.Sprintf("%+v", v), u, want)
}

// wantTurnedRows refuses a value that is right but for one thing: an Arg that lacks, one more, one that is no value, or
// is itself.
func wantTurnedRows(t *testing.T, v impl.Val) {
	t.Helper()
	with := func(args ...int) impl.Val {
		w := v
		w.Args = args
		return w
	}
	for i := range v.Args {
		wantRow(t, with(slices.Delete(slices.Clone(v.Args), i, i+1)...), false)
		for _, other := range []int{-1, len(rowNames), len(rowNames) + 1, math.MinInt, math.MaxInt, 8} {
			args := slices.Clone(v.Args)
			args[i] = other
			wantRow(t, with(args...), false)
		}
	}
	for more := range rowNames {
		wantRow(t, with(append(slices.Clone(v.Args), more)...), false)
	}
	for _, ty := range noTypes() {
		w := v
		w.Ty = ty
		wantRow(t, w, false)
	}
}

// phiUnit has a block with a parameter that is as it is said, and an edge with a value of that type, where there is one.
func phiUnit(v impl.Val) impl.Unit {
	u := unitOf(rowUnitText)
	f := &u.Fns[2]
	f.Vals = append(f.Vals, v)
	arg := slices.IndexFunc(f.Vals[:8], func(other impl.Val) bool { return other.Ty == v.Ty })
	f.Blocks[0].Term, f.Blocks[0].Out = impl.TmJump, []impl.Edge{{To: 1, Args: []int{max(arg, 0)}}}
	f.Blocks = append(f.Blocks, impl.Block{Params: []int{10}, Term: impl.TmReturn})
	return u
}

func TestPhis(t *testing.T) {
	for _, ty := range realTypes() {
		wantUnit(t, fmt.Sprint("a phi of ", ty), phiUnit(impl.Val{Ty: ty}), true)
		for _, n := range []int{-1, 1, 2, math.MinInt, math.MaxInt} {
			wantUnit(t, fmt.Sprint("a phi with N ", n), phiUnit(impl.Val{Ty: ty, N: n}), false)
		}
		for _, args := range [][]int{{0}, {10}, {0, 0}, {-1}} {
			wantUnit(t, fmt.Sprint("a phi with Args ", args), phiUnit(impl.Val{Ty: ty, Args: args}), false)
		}
		for _, op := range rowOps()[1:] {
			wantUnit(t, fmt.Sprint("no phi but ", op), phiUnit(impl.Val{Op: op, Ty: ty}), false)
		}
	}
	for _, ty := range append(noTypes(), impl.Ty{}) {
		wantUnit(t, fmt.Sprint("a phi of ", ty), phiUnit(impl.Val{Ty: ty}), false)
		// The edge brings a value of the same type that is none: both are refused.
		u := phiUnit(impl.Val{Ty: ty})
		u.Fns[2].Vals[0].Ty = ty
		wantUnit(t, fmt.Sprint("a phi and what is brought of ", ty), u, false)
	}
}

// TestCallsInUnits: any function may be called with just its Params, in order; its Res is the type.
func TestCallsInUnits(t *testing.T) {
	heads := `struct int; struct float
fn four a:int b:float c:*0 d:[]*1 > *1; p = nil *1; return p
fn none; return
fn same a:*0 > *0; r = call same a; return r
`
	main := "fn main; i = int 1; f = float 1; a = nil *0; b = nil *1; as = nil []*0; bs = nil []*1; "
	wantUnits(t, heads, true,
		main+"p = call four i f a bs; q = call four i f a bs; s = same p q; return",
		main+"call none; call none; return",
		main+"call main; return",
		main+"call four i f a bs; return",
		main+"p = call same a; call same p; return")
	wantUnits(t, heads, false,
		main+"p = call four i f a; return", main+"p = call four; return", main+"p = call four i f a bs i; return",
		main+"p = call four f i a bs; return", main+"p = call four i f b bs; return", main+"p = call four i f a as; return", main+"p = call four bs a f i; return",
		main+"p:*0 = call four i f a bs; return", main+"p:none = call four i f a bs; return", main+"p:int = call none; return", main+"p:*1 = call main; return",
		main+"call none i; return", main+"call main i; return", main+"p = call same b; return", main+"p = call same; return", main+"p = call same a a; return")
	for _, n := range []int{-1, 4, 5, math.MinInt, math.MaxInt} {
		wantUnit(t, fmt.Sprint("a call of ", n), edited(heads+main+"call none; return", func(u *impl.Unit) { u.Fns[3].Vals[6].N = n }), false)
	}
}

// TestTypesLookedAtLater: where a value is used, a block with a greater number may have made it, with a type that is
// none.
func TestTypesLookedAtLater(t *testing.T) {
	heads := "struct int float; fn main; jump c; "
	wantUnits(t, heads, true,
		"b :; x:int = load 0 p; y:float = load 1 p; print x; return; c :; p = nil *0; jump b",
		"b :; store 1 p f; return; c :; p = new 0; f = float 1; jump b")
	uses := []string{"load 0 p", "store 0 p i", "nilcheck p", "same p p", "get p i", "put p i i", "len p", "indexcheck p i", "add p i", "print p", "toint p", "call main p"}
	for _, use := range uses {
		for _, ty := range append(noTypes(), impl.Ty{}) {
			for n := range 3 {
				u := unitOf(heads + "b :; " + use + "; return; c :; i = int 0; p = nil *0; jump b")
				u.Fns[0].Vals[0].N = n
				u.Fns[0].Vals[2].Ty = ty
				wantUnit(t, fmt.Sprint(use, " of ", ty), u, false)
			}
		}
	}
}
