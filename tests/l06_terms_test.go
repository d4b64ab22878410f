package tests

import (
	"fmt"
	"math"
	"slices"
	"testing"

	"loop.example/g00306/impl"
)

func TestJumps(t *testing.T) {
	heads := "fn main; i = int 1; f = float 1; "
	wantUnits(t, heads, true, "jump a; a :; return", "jump a i; a p:int :; return", "jump a f; a p:float :; return", "jump a i f i; a p:int q:float r:int :; return")
	wantUnits(t, heads, false,
		"jump a; a p:int :; return", "jump a i; a :; return", "jump a f; a p:int :; return", "jump a i; a p:float :; return",
		"jump a i; a p:int q:float :; return", "jump a i f f; a p:int q:float :; return", "jump a f i; a p:int q:float :; return", "jump a i i; a p:int q:float :; return")
	text := heads + "jump a; a :; return"
	for what, edit := range map[string]func(b *impl.Block){
		"with an Arg":            func(b *impl.Block) { b.Args = []int{0} },
		"with a float":           func(b *impl.Block) { b.Args = []int{1} },
		"without an edge":        func(b *impl.Block) { b.Out = nil },
		"with two edges":         func(b *impl.Block) { b.Out = []impl.Edge{{To: 1}, {To: 1}} },
		"with two edges apart":   func(b *impl.Block) { b.Out = []impl.Edge{{To: 1}, {To: 2}} },
		"with many edges":        func(b *impl.Block) { b.Out = slices.Repeat([]impl.Edge{{To: 1}}, 500) },
		"with an Arg on an edge": func(b *impl.Block) { b.Out[0].Args = []int{0} },
	} {
		wantUnit(t, "a jump "+what, edited(text, func(u *impl.Unit) { edit(&u.Fns[0].Blocks[0]) }), false)
	}
}

// TestEdgesFromManyBlocks: each edge to a block brings just its Params.
func TestEdgesFromManyBlocks(t *testing.T) {
	heads := "struct int; struct float; fn main; i = int 1; f = float 1; p = new 0; q = nil *1; l = nil []*0; if i a b; "
	wantUnits(t, heads, true,
		"a :; jump c i p; b :; jump c i p; c x:int y:*0 :; return",
		"a :; jump c l q f; b :; jump d; d :; jump c l q f; c x:[]*0 y:*1 z:float :; return",
		"a :; jump c i; b :; jump c i; c x:int :; y = add x i; jump c y")
	wantUnits(t, heads, false,
		"a :; jump c i p; b :; jump c i; c x:int y:*0 :; return",
		"a :; jump c i; b :; jump c i p; c x:int y:*0 :; return",
		"a :; jump c i p; b :; jump c i q; c x:int y:*0 :; return",
		"a :; jump c i p; b :; jump c p i; c x:int y:*0 :; return",
		"a :; jump c i p; b :; jump c; c x:int y:*0 :; return",
		"a :; jump c i p; b :; jump c i p p; c x:int y:*0 :; return",
		"a :; jump c l; b :; jump c q; c x:[]*0 :; return",
		"a :; jump c i; b :; jump c i; c x:int :; jump c")
}

func TestIfs(t *testing.T) {
	heads := "struct int; fn main; i = int 1; f = float 1; p = new 0; l = nil []int; "
	wantUnits(t, heads, true, "if i a b; a :; return; b :; return", "if i b a; a :; return; b :; return", "jump a; a :; if i a b; b :; return", "jump a; a :; if i b a; b :; return")
	wantUnits(t, heads, false,
		"if f a b; a :; return; b :; return", "if p a b; a :; return; b :; return", "if l a b; a :; return; b :; return",
		"if i a a; a :; return", "jump a; a :; if i a a",
		// To a block with Params, by the first edge, the second one, or both.
		"if i a b; a q:int :; return; b :; return", "if i a b; a :; return; b q:int :; return", "if i a b; a q:int :; return; b q:int :; return")
	text := heads + "if i a b; a :; return; b :; return"
	for what, edit := range map[string]func(f *impl.Fn, b *impl.Block){
		"without an Arg":       func(f *impl.Fn, b *impl.Block) { b.Args = nil },
		"with two":             func(f *impl.Fn, b *impl.Block) { b.Args = []int{0, 0} },
		"without edges":        func(f *impl.Fn, b *impl.Block) { b.Out = nil },
		"with one edge":        func(f *impl.Fn, b *impl.Block) { b.Out = b.Out[:1] },
		"with three edges":     func(f *impl.Fn, b *impl.Block) { b.Out = append(b.Out, impl.Edge{To: 1}) },
		"with the same edges":  func(f *impl.Fn, b *impl.Block) { b.Out[1].To = 1 },
		"with an Arg on one":   func(f *impl.Fn, b *impl.Block) { b.Out[0].Args = []int{0} },
		"with an Arg on two":   func(f *impl.Fn, b *impl.Block) { b.Out[1].Args = []int{0} },
		"with Args to a param": func(f *impl.Fn, b *impl.Block) { addParam(f, 1); b.Out[0].Args = []int{0} },
		"with Args to params": func(f *impl.Fn, b *impl.Block) {
			addParam(f, 1)
			addParam(f, 2)
			b.Out[0].Args, b.Out[1].Args = []int{0}, []int{0}
		},
	} {
		u := edited(text, func(u *impl.Unit) { edit(&u.Fns[0], &u.Fns[0].Blocks[0]) })
		wantUnit(t, "an if "+what, u, false)
	}
}

// addParam gives a block a parameter more, an int.
func addParam(f *impl.Fn, b int) {
	f.Blocks[b].Params = append(f.Blocks[b].Params, len(f.Vals))
	f.Vals = append(f.Vals, impl.Val{Ty: tyInt()})
}

func TestReturnsOfUnits(t *testing.T) {
	all := map[string]string{"int": "i", "float": "f", "*0": "p", "*1": "q", "[]int": "is", "[]float": "fs", "[]*0": "ps", "[]*1": "qs"}
	values := "i = int 1; f = float 1; p = nil *0; q = nil *1; is = nil []int; fs = nil []float; ps = nil []*0; qs = nil []*1; "
	structs := "struct int; struct float; fn main; return; "
	for ty := range all {
		for other, name := range all {
			wantUnits(t, structs, ty == other, fmt.Sprintf("fn f > %s; %s return %s", ty, values, name))
		}
		wantUnits(t, structs, false, fmt.Sprintf("fn f > %s; %s return", ty, values), fmt.Sprintf("fn f > %s; %s return %s %s", ty, values, all[ty], all[ty]), fmt.Sprintf("fn f; %s return %s", values, all[ty]))
	}
	wantUnits(t, structs, true, "fn f; return", "fn f > int; i = int 1; if i a b; a :; return i; b :; panic i")
	wantUnits(t, structs, false, "fn f > int; i = int 1; if i a b; a :; return i; b :; return", "fn main; i = int 1; return i")
	for what, edit := range map[string]func(b *impl.Block){
		"with an edge":     func(b *impl.Block) { b.Out = []impl.Edge{{To: 1}} },
		"with two edges":   func(b *impl.Block) { b.Out = []impl.Edge{{To: 1}, {To: 2}} },
		"with an odd edge": func(b *impl.Block) { b.Out = []impl.Edge{{To: -1}} },
	} {
		for _, text := range []string{"fn main; i = int 1; jump a; a :; return", "fn main; i = int 1; jump a; a :; panic i"} {
			u := edited(text, func(u *impl.Unit) {
				edit(&u.Fns[0].Blocks[1])
				u.Fns[0].Blocks = append(u.Fns[0].Blocks, impl.Block{Term: impl.TmReturn})
			})
			wantUnit(t, text+" "+what, u, false)
		}
	}
}

func TestPanicsOfUnits(t *testing.T) {
	values := "struct int; fn main; i = int 1; f = float 1; p = nil *0; is = nil []int; "
	wantUnits(t, values, true, "panic i")
	wantUnits(t, values, false, "panic f", "panic p", "panic is", "panic", "panic i i", "panic i f")
	wantUnits(t, "", true, "fn main; return; fn f a:int > float; panic a")
	wantUnits(t, "", false, "fn main; return; fn f a:float > float; panic a")
}

func TestTermsThatAreNone(t *testing.T) {
	for _, term := range []int{-1, -2, 4, 5, 99, math.MinInt, math.MaxInt} {
		for _, text := range []string{"fn main; return", "fn main; i = int 1; panic i", "fn main; jump a; a :; return", "fn main; i = int 1; if i a b; a :; return; b :; return"} {
			wantUnit(t, fmt.Sprint(text, " as ", term), edited(text, func(u *impl.Unit) { u.Fns[0].Blocks[0].Term = term }), false)
		}
	}
}

// TestAllEnds tries each Term with all sorts of Args and edges, of functions with each sort of result.
func TestAllEnds(t *testing.T) {
	texts := map[string]string{"none": "return", "int": "return i", "float": "return f"}
	edges := []impl.Edge{{To: 1}, {To: 2}, {To: 3, Args: []int{1}}, {To: 1, Args: []int{1}}, {To: 3}, {To: 0}}
	var outs [][]impl.Edge
	for _, a := range edges {
		outs = append(outs, []impl.Edge{a})
		for _, b := range edges {
			outs = append(outs, []impl.Edge{a, b}, []impl.Edge{a, b, a})
		}
	}
	outs = append(outs, nil)
	taken := map[string]int{}
	for ty, last := range texts {
		// The block 4 is turned; the others are reached without it.
		text := "fn f > " + ty + "; c = read; i = int 1; f = float 1; p = zerocheck i; if c a x; a :; " + last + "; b :; " + last + "; c q:int :; " + last + "; d :; " + last + "; x :; if c b y; y :; if c d z; z :; jump c i; fn main; return"
		for term := -1; term <= 4; term++ {
			for _, args := range [][]int{nil, {1}, {2}, {3}, {1, 1}, {2, 2}, {5}, {-1}} {
				for _, out := range outs {
					u := unitOf(text)
					block := &u.Fns[0].Blocks[4]
					block.Term, block.Args, block.Out = term, args, out
					want := faultOf(u) == ""
					if unitOk(t, u) != want {
						t.Fatalf("%s: a block that ends by %d with %v and %v: %v", text, term, args, out, !want)
					}
					if want {
						taken[fmt.Sprint(ty, " by ", term)]++
					}
				}
			}
		}
	}
	// By hand: jumps to 1, to 2, and to 3 with its Arg; ifs to 1 and 2 in both orders; one return; one panic.
	want := map[string]int{}
	for ty := range texts {
		want[ty+" by 0"], want[ty+" by 1"], want[ty+" by 2"], want[ty+" by 3"] = 3, 2, 1, 1
	}
	if fmt.Sprint(taken) != fmt.Sprint(want) {
		t.Errorf("%v are taken, want %v", taken, want)
	}
}

// TestOneFunctionOfMany: wherever the fault is, the unit is refused.
func TestOneFunctionOfMany(t *testing.T) {
	good, bad := "fn f%d a:int; print a; return\n", "fn f%d a:int; print b; b = int 1; return\n"
	for fault := -1; fault < 6; fault++ {
		text := "fn main; return\n"
		for n := range 6 {
			text += fmt.Sprintf(map[bool]string{true: bad, false: good}[n == fault], n)
		}
		wantUnits(t, "", fault == -1, text)
	}
}
