package tests

import (
	"fmt"
	"math"
	"slices"
	"strings"
	"testing"

	"loop.example/g00306/impl"
)

// wantNotOptimized fails unless the answer is the zero value and false.
func wantNotOptimized(t *testing.T, what string, u impl.Unit, passes []int) {
	t.Helper()
	if o, ok := optimize(t, u, passes); ok || unitText(o) != "main 0" {
		t.Errorf("%s: %v, %s", what, ok, unitText(o))
	}
}

// refusedText is a unit with all kinds of blocks and edges, in which passes find something.
const refusedText = "struct int *0; fn f a:int p:*0 > int; x = int 1; y = int 1; z = add x y; jump m z a; m b:int c:int :; if b t e; t :; nilcheck p; v = load 0 p; jump m v c; e :; return c; fn main; p = new 0; n = int 3; l = make []int n; r = call f n p; indexcheck l r; put l r n; print r; return"

func TestConstantsOfPasses(t *testing.T) {
	if got := []int{impl.PassFold, impl.PassCopy, impl.PassSame, impl.PassDead, impl.MaxPasses}; !slices.Equal(got, []int{0, 1, 2, 3, 12}) {
		t.Error(got)
	}
}

func TestMostPasses(t *testing.T) {
	u := unitOf(refusedText)
	for p := range 4 {
		for _, count := range []int{0, 1, impl.MaxPasses - 1, impl.MaxPasses} {
			if o, ok := optimize(t, u, slices.Repeat([]int{p}, count)); !ok || len(o.Fns) != 2 {
				t.Errorf("%d times %d is refused", count, p)
			}
		}
		for _, count := range []int{impl.MaxPasses + 1, impl.MaxPasses + 2, 100} {
			wantNotOptimized(t, fmt.Sprint(count, " times ", p), u, slices.Repeat([]int{p}, count))
		}
	}
	wantNotOptimized(t, "one more of all", u, passesOf("fcsdfcsdfcsdf"))
	if _, ok := optimize(t, u, passesOf("fcsdfcsdfcsd")); !ok {
		t.Error("as many as there may be are refused")
	}
}

func TestPassesThatAreNone(t *testing.T) {
	u := unitOf(refusedText)
	for _, p := range []int{-1, 4, 5, math.MinInt, math.MaxInt, 1 << 32} {
		for _, passes := range [][]int{{p}, {p, 0}, {0, p}, {1, p, 2}, {3, 2, 1, p}, {p, p}, append(slices.Repeat([]int{3}, 11), p), append([]int{p}, slices.Repeat([]int{0}, 11)...), append(slices.Repeat([]int{3}, 12), p)} {
			wantNotOptimized(t, fmt.Sprint(passes), u, passes)
			wantNotOptimized(t, fmt.Sprint(passes, " of no unit"), impl.Unit{}, passes)
		}
	}
}

// noUnits are texts of units that may not be.
var noUnits = []string{
	"fn main; print x; x = read; return",
	"fn main; y = add x x; x = read; return",
	"fn main; x = read; if x a b; a :; y = read; jump c; b :; jump c; c :; print y; return",
	"fn main; jump begin",
	"fn main; return; a :; return",
	"fn main; x = read; return; a :; x = read; jump a",
	"fn main; x = read; jump a x; a :; return",
	"fn main; jump a; a p:int :; return",
	"fn main; x = float 1; panic x",
	"fn main; x = read; if x a a; a :; return",
	"fn main > int; x = int 1; return x",
	"fn main a:int; return",
	"fn f; return",
	"fn main; return; fn f > int; return",
	"fn main; x = nil *0; return",
	"struct; fn main; x = new 1; return",
	"struct int; fn main; p = new 0; x:float = load 0 p; return",
	"fn main; print #7; return",
}

func TestUnitsThatAreNotOptimized(t *testing.T) {
	for _, letters := range []string{"", "f", "c", "s", "d", "fcsd", "fcsdfcsdfcsd", "fcsdfcsdfcsdf"} {
		wantNotOptimized(t, "the zero unit", impl.Unit{}, passesOf(letters))
		for _, text := range noUnits {
			wantNotOptimized(t, text, unitOf(text), passesOf(letters))
		}
		wantNotOptimized(t, "too many values", impl.Unit{Fns: []impl.Fn{manyVals(impl.MaxVals + 1)}}, passesOf(letters))
		wantNotOptimized(t, "too many blocks", impl.Unit{Fns: []impl.Fn{linked(chain(impl.MaxBlocks + 1))}}, passesOf(letters))
	}
	// What a pass would take out is no unit either, as long as it is there.
	wantNotOptimized(t, "a value that nobody uses", unitOf("fn main; x:float = add y y; y = int 1; return"), passesOf("d"))
	wantNotOptimized(t, "behind a choice that is known", unitOf("fn main; x = int 1; if x a b; a :; return; b :; print y; return; c :; y = read; jump b"), passesOf("f"))
}

// TestOneThingTurnedIsNotOptimized: whatever number or list is another, it is refused just where it is no unit.
func TestOneThingTurnedIsNotOptimized(t *testing.T) {
	t.Parallel()
	numbers := spread(60000)
	m := newMaker(numbers, 41)
	well, refused := 0, 0
	for round := range 60 {
		u := newUnitMaker(numbers, round*79+5).unit()
		if round%6 == 0 {
			u = unitOf(refusedText)
		}
		for range 12 {
			turned := turnOne(m, u)
			passes := somePasses()[m.pick(len(somePasses()))]
			o, ok := optimize(t, turned, passes)
			if !ok {
				refused++
				continue
			}
			well++
			wantSameDone(t, turned, o, passes, promiseInput(numbers, round), 1000)
		}
	}
	if well < 100 || refused < 400 {
		t.Errorf("%d are well, %d are refused", well, refused)
	}
}

// TestMuchIsOptimized: as many values and blocks as there may be.
func TestMuchIsOptimized(t *testing.T) {
	t.Parallel()
	all := impl.Unit{Fns: []impl.Fn{manyVals(impl.MaxVals)}}
	if o := optimized(t, all, "fcs"); len(o.Fns[0].Vals) != impl.MaxVals {
		t.Errorf("%d values", len(o.Fns[0].Vals))
	}
	if o := optimized(t, all, "d"); len(o.Fns[0].Vals) != 0 {
		t.Errorf("%d values", len(o.Fns[0].Vals))
	}
	for _, f := range []impl.Fn{linked(chain(impl.MaxBlocks)), linked(chainAgainst(impl.MaxBlocks))} {
		u := impl.Unit{Fns: []impl.Fn{f}}
		if o := optimized(t, u, "fcsdfcsdfcsd"); unitText(o) != unitText(u) {
			t.Error("a chain of blocks did not stay")
		}
	}
	// Each block makes the same value, and a parameter of it; the last one puts it out.
	var text strings.Builder
	text.WriteString("fn main; x = read; y = add x x; jump b1 y")
	for n := 1; n < impl.MaxBlocks-1; n++ {
		fmt.Fprintf(&text, "; b%d p%d:int :; y%d = add x x; jump b%d y%d", n, n, n, n+1, n)
	}
	fmt.Fprintf(&text, "; b%d p:int :; print p; return", impl.MaxBlocks-1)
	o := optimized(t, unitOf(text.String()), "sc")
	if f := o.Fns[0]; len(f.Vals) != 3 || len(f.Blocks) != impl.MaxBlocks {
		t.Errorf("%d values, %d blocks", len(f.Vals), len(f.Blocks))
	}
	// Many edges, each with many Args, of which all but one pair go round.
	wide := unitOf("fn main; x = read; y = read; jump h" + strings.Repeat(" x", 1000) + " y; h" + strings.Repeat(" p:int", 1000) + " q:int :; print q; r = read; if r b o; b :; jump h" + strings.Repeat(" x", 1000) + " r; o :; return")
	if o := optimized(t, wide, "c"); len(o.Fns[0].Vals) != 5 || len(o.Fns[0].Blocks[1].Params) != 1 {
		t.Errorf("%d values", len(o.Fns[0].Vals))
	}
}
