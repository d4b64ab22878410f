package tests

import (
	"fmt"
	"math"
	"testing"

	"loop.example/g00306/impl"
)

// TestValuesStandOnce: the values are x 0, y 1, the print 2, and the parameter p 3 of the second block, with its print 4.
func TestValuesStandOnce(t *testing.T) {
	text := "fn main; x = read; y = add x x; print y; jump b y; b p:int :; print p; return"
	wantUnits(t, "", true, text)
	for what, edit := range map[string]func(first, second *impl.Block){
		"nowhere, not used":             func(a, b *impl.Block) { a.Code = []int{0, 1} },
		"nowhere, used":                 func(a, b *impl.Block) { a.Code = []int{0, 2} },
		"nowhere, the first":            func(a, b *impl.Block) { a.Code = []int{1, 2} },
		"nowhere, the last":             func(a, b *impl.Block) { b.Code = nil },
		"nowhere, a parameter":          func(a, b *impl.Block) { b.Params, b.Code, a.Out[0].Args = nil, nil, nil },
		"twice in one block, at once":   func(a, b *impl.Block) { a.Code = []int{0, 1, 2, 2} },
		"twice in one block, later":     func(a, b *impl.Block) { a.Code = []int{0, 1, 2, 0} },
		"twice, in the place of one":    func(a, b *impl.Block) { a.Code = []int{0, 1, 1} },
		"twice, two blocks":             func(a, b *impl.Block) { b.Code = []int{4, 2} },
		"twice, two blocks, the first":  func(a, b *impl.Block) { b.Code = []int{0, 4} },
		"a parameter in Code":           func(a, b *impl.Block) { b.Code = []int{3, 4} },
		"a parameter in Code, alone":    func(a, b *impl.Block) { b.Params, a.Out[0].Args, b.Code = nil, nil, []int{3, 4} },
		"a parameter in the other Code": func(a, b *impl.Block) { a.Code = []int{0, 1, 2, 3} },
		"a parameter twice":             func(a, b *impl.Block) { b.Params, a.Out[0].Args = []int{3, 3}, []int{0, 0} },
		"another as a parameter":        func(a, b *impl.Block) { b.Params, a.Out[0].Args = []int{3, 2}, []int{0, 0} },
		"another as a parameter alone":  func(a, b *impl.Block) { a.Code, b.Params, a.Out[0].Args = []int{0, 2}, []int{3, 1}, []int{0, 0} },
		"no value in Code, below":       func(a, b *impl.Block) { a.Code = []int{0, 1, 2, -1} },
		"no value in Code, beyond":      func(a, b *impl.Block) { a.Code = []int{0, 1, 2, 5} },
		"no value in Code, in place":    func(a, b *impl.Block) { a.Code = []int{0, 1, 5} },
		"no value in Code, far":         func(a, b *impl.Block) { b.Code = []int{4, math.MaxInt} },
		"no value in Code, far below":   func(a, b *impl.Block) { b.Code = []int{math.MinInt, 4} },
		"no value in Params, below":     func(a, b *impl.Block) { b.Params, a.Out[0].Args = []int{3, -1}, []int{0, 0} },
		"no value in Params, beyond":    func(a, b *impl.Block) { b.Params, a.Out[0].Args = []int{5, 3}, []int{0, 0} },
		"no value in Params, alone":     func(a, b *impl.Block) { b.Params, a.Out[0].Args = []int{-1}, []int{0} },
	} {
		u := edited(text, func(u *impl.Unit) { edit(&u.Fns[0].Blocks[0], &u.Fns[0].Blocks[1]) })
		wantUnit(t, what, u, false)
	}
	// The numbers need not be in order.
	u := edited(text, func(u *impl.Unit) {
		f := &u.Fns[0]
		f.Vals[0], f.Vals[4] = f.Vals[4], f.Vals[0]
		f.Vals[1].Args = []int{4, 4}
		f.Blocks[0].Code, f.Blocks[1].Code = []int{4, 1, 2}, []int{0}
	})
	wantUnit(t, "in another order", u, true)
}

// TestNumbersThatAreNoValues: in Args of a value, of a block, of an edge, wherever they stand.
func TestNumbersThatAreNoValues(t *testing.T) {
	text := "fn main; x = read; y = add x x; if y a b; a :; jump c x y; b :; panic x; c p:int q:int :; print p; print q; return"
	wantUnits(t, "", true, text)
	for _, n := range []int{-1, 6, 7, 3000, math.MinInt, math.MaxInt} {
		for what, edit := range map[string]func(f *impl.Fn){
			"the first Arg of a value":    func(f *impl.Fn) { f.Vals[1].Args[0] = n },
			"the second Arg of a value":   func(f *impl.Fn) { f.Vals[1].Args[1] = n },
			"the Arg of a print":          func(f *impl.Fn) { f.Vals[4].Args[0] = n },
			"the Arg of an if":            func(f *impl.Fn) { f.Blocks[0].Args[0] = n },
			"the Arg of a panic":          func(f *impl.Fn) { f.Blocks[2].Args[0] = n },
			"the first Arg of an edge":    func(f *impl.Fn) { f.Blocks[1].Out[0].Args[0] = n },
			"the last Arg of an edge":     func(f *impl.Fn) { f.Blocks[1].Out[0].Args[1] = n },
			"an Arg of an if's edge":      func(f *impl.Fn) { f.Blocks[0].Out[1].Args = []int{n} },
			"an Arg of a return":          func(f *impl.Fn) { f.Blocks[3].Args = []int{n} },
			"an Arg of a jump":            func(f *impl.Fn) { f.Blocks[1].Args = []int{n} },
			"an Arg more of a value":      func(f *impl.Fn) { f.Vals[1].Args = []int{0, 0, n} },
			"an Arg of a value with none": func(f *impl.Fn) { f.Vals[0].Args = []int{n} },
		} {
			wantUnit(t, fmt.Sprint(what, ": ", n), edited(text, func(u *impl.Unit) { edit(&u.Fns[0]) }), false)
		}
	}
}

func TestParamsOfBlock0(t *testing.T) {
	text := "fn f a:int b:float c:int; print a; print b; return; fn main; return"
	wantUnits(t, "", true, text, "fn f; return; fn main; return", "struct; fn f a:*0 b:[]*0 c:[]int d:[]float; return; fn main; return")
	for what, edit := range map[string]func(f *impl.Fn){
		"one fewer, the last":  func(f *impl.Fn) { f.Params = f.Params[:2] },
		"one fewer, the first": func(f *impl.Fn) { f.Params = f.Params[1:] },
		"none":                 func(f *impl.Fn) { f.Params = nil },
		"one more":             func(f *impl.Fn) { f.Params = append(f.Params, tyInt()) },
		"another type":         func(f *impl.Fn) { f.Params[0] = tyFloat() },
		"another last type":    func(f *impl.Fn) { f.Params[2] = tyInts() },
		"in another order":     func(f *impl.Fn) { f.Params[0], f.Params[1] = f.Params[1], f.Params[0] },
		"a type that is none":  func(f *impl.Fn) { f.Params[2] = impl.Ty{}; f.Vals[2].Ty = impl.Ty{} },
		"the block has one fewer": func(f *impl.Fn) {
			f.Blocks[0].Params = f.Blocks[0].Params[:2]
			f.Vals[2] = f.Vals[4]
			f.Blocks[0].Code = []int{3, 2}
			f.Vals = f.Vals[:4]
		},
		"the block has one more": func(f *impl.Fn) {
			f.Vals = append(f.Vals, impl.Val{Ty: tyInt()})
			f.Blocks[0].Params = append(f.Blocks[0].Params, 5)
		},
		"the block has another type": func(f *impl.Fn) { f.Vals[2].Ty = tyFloat() },
		"the block has them turned":  func(f *impl.Fn) { f.Blocks[0].Params = []int{0, 2, 1} },
	} {
		wantUnit(t, what, edited(text, func(u *impl.Unit) { edit(&u.Fns[0]) }), false)
	}
	// Those of one type may stand in any order.
	wantUnit(t, "two turned of one type", edited(text, func(u *impl.Unit) { u.Fns[0].Blocks[0].Params = []int{2, 1, 0} }), true)
	// Main has none, and so its first block has none.
	wantUnit(t, "main with a parameter", edited("fn main; return", func(u *impl.Unit) {
		u.Fns[0].Vals, u.Fns[0].Blocks[0].Params = []impl.Val{{Ty: tyInt()}}, []int{0}
	}), false)
}

func TestNoEdgeToBlock0(t *testing.T) {
	wantUnits(t, "", false,
		"fn main; jump begin",
		"fn main; jump a; a :; jump begin",
		"fn main; x = read; if x begin a; a :; return",
		"fn main; x = read; if x a begin; a :; return",
		"fn main; x = read; if x a b; a :; return; b :; y = read; if y a begin",
		"fn main; return; fn f a:int; jump begin a",
		"fn main; return; fn f a:int; jump b; b :; jump begin a")
	wantUnits(t, "", true, "fn main; jump a; a :; jump a", "fn main; jump a; a :; x = read; if x a b; b :; return")
}

func TestBlocksThatAreNotReached(t *testing.T) {
	wantUnits(t, "", false,
		"fn main; return; a :; return",
		"fn main; jump b; a :; jump b; b :; return",
		"fn main; return; a :; jump a",
		"fn main; return; a :; jump b; b :; jump a",
		"fn main; jump a; a :; return; b :; x = read; if x a b",
		"fn main; return; fn f; return; a :; panic x; b :; x = read; jump a",
		"fn main; jump c; a :; return; b :; jump a; c :; return")
	wantUnits(t, "", true, "fn main; jump c; a :; return; b :; jump a; c :; jump b")
	// An edge to no block.
	for _, to := range []int{-1, 2, 3, math.MinInt, math.MaxInt} {
		wantUnits(t, "", false,
			fmt.Sprintf("fn main; jump #%d; a :; jump a", to),
			fmt.Sprintf("fn main; x = read; if x a #%d; a :; return", to),
			fmt.Sprintf("fn main; x = read; if x #%d a; a :; return", to),
			fmt.Sprintf("fn main; jump a; a :; jump #%d", to))
	}
}

// TestWhereValuesAreMade: each is used where it is there on all ways.
func TestWhereValuesAreMade(t *testing.T) {
	wantUnits(t, "", true,
		// Ahead in the same block; and by its end and its edges.
		"fn main; x = read; print x; y = add x x; print y; return",
		"fn main; x = read; if x a b; a :; return; b :; panic x",
		"fn main; x = read; jump b x; b p:int :; print p; return",
		"fn main; x = read; panic x",
		"fn f > int; x = read; return x; fn main; return",
		// A parameter ahead of all Code, of its own block's end, of its own edges.
		"fn main; x = read; jump b x; b p:int :; y = add p x; z = add y p; if z c d; c :; print p; return; d :; panic p",
		"fn f a:int b:int > int; c = sub a b; return c; fn main; return",
		// In a block that is on all ways there, near and far.
		"fn main; x = read; if x a b; a :; print x; jump c; b :; print x; jump c; c :; print x; return",
		"fn main; x = read; jump a; a :; y = read; jump b; b :; jump c; c :; jump d; d :; z = add x y; print z; return",
		"fn main; x = read; if x a b; a :; y = read; if y c d; c :; print y; jump e; d :; print y; jump e; e :; print y; return; b :; return",
		// In blocks whose numbers are not in order.
		"fn main; jump c; a :; print x; return; b :; y = add x x; jump a; c :; x = read; jump b",
		// Loops: the head's values in the body and behind it; those from ahead of it everywhere.
		"fn main; x = read; jump h; h :; y = read; if y b o; b :; z = add x y; print z; jump h; o :; print y; print x; return",
		"fn main; x = read; jump h x; h p:int :; if p b o; b :; one = int 1; q = sub p one; jump h q; o :; print p; return",
		// A loop without a head that is apart: what its block makes is there behind it.
		"fn main; jump b; b :; x = read; if x b o; o :; print x; return",
		// A parameter that goes round the loop as it is, or is taken from the one beside it.
		"fn main; x = read; jump h x; h p:int :; jump h p",
		"fn main; x = read; y = read; jump h x y; h p:int q:int :; jump h q p",
		// An edge of the block that makes it, back to a block that is ahead.
		"fn main; x = read; jump h x; h p:int :; y = add p p; jump h y",
		// A loop with two ways in: what is made ahead of both.
		"fn main; x = read; if x a b; a :; print x; jump b; b :; print x; jump a")
}

// TestWhereValuesAreNotMade: there is a way on which they are not, or not yet.
func TestWhereValuesAreNotMade(t *testing.T) {
	wantUnits(t, "", false,
		// Behind, in the same block, or by itself.
		"fn main; print x; x = read; return",
		"fn main; y = add x x; x = read; return",
		"fn main; x = add x x; return",
		"fn main; r = read; x = add r x; return",
		"fn main; x = read; y = add x z; z = add x y; return",
		// In a block that not all ways lead through.
		"fn main; x = read; if x a b; a :; y = read; jump c; b :; jump c; c :; print y; return",
		"fn main; x = read; if x a b; a :; jump c; b :; y = read; jump c; c :; print y; return",
		"fn main; x = read; if x a c; a :; y = read; jump c; c :; print y; return",
		"fn main; x = read; if x a b; a :; y = read; jump c; b :; z = read; jump c; c :; w = add y z; return",
		// In a block beside, or behind.
		"fn main; x = read; if x a b; a :; y = read; return; b :; print y; return",
		"fn main; x = read; if x a b; a :; print y; return; b :; y = read; return",
		"fn main; print y; jump a; a :; y = read; return",
		"fn main; if y a b; a :; y = read; return; b :; return",
		"fn main; jump a y; a p:int :; y = read; return",
		// A parameter ahead of its block, or on the edge there from outside.
		"fn main; jump h p; h p:int :; print p; return",
		"fn main; print p; x = read; jump h x; h p:int :; return",
		"fn main; x = read; jump h p x; h p:int q:int :; jump h q p",
		// A parameter of a block where both ways meet, in one of both.
		"fn main; x = read; if x a b; a :; print p; jump c x; b :; jump c x; c p:int :; return",
		// What the body of a loop makes: behind it, in its head, and ahead of it.
		"fn main; jump h; h :; y = read; if y b o; b :; z = read; jump h; o :; print z; return",
		"fn main; jump h; h :; print z; y = read; if y b o; b :; z = read; jump h; o :; return",
		"fn main; print z; jump h; h :; y = read; if y b o; b :; z = read; jump h; o :; return",
		// Round a block that leads to itself: ahead in it, though it was made the last time.
		"fn main; jump b; b :; print x; x = read; if x b o; o :; return",
		// A loop with two ways in: neither is on all ways to the other one.
		"fn main; x = read; if x a b; a :; y = read; jump b; b :; print y; jump a",
		"fn main; x = read; if x a b; a :; print y; jump b; b :; y = read; jump a",
		// Of another function.
		"fn f a:int b:int; return; fn main; print #1; return",
		"fn main; panic #0; fn f y:int; return")
}

// TestValuesWithoutAType are used nowhere, though they are made.
func TestValuesWithoutAType(t *testing.T) {
	heads := "struct int; fn none; return; fn main; i = int 1; p = new 0; l = make []int i; "
	for _, without := range []string{"nilcheck p", "indexcheck l i", "zerocheck i", "makecheck i", "store 0 p i", "put l i i", "print i", "call none"} {
		v := heads + "v = " + without + "; "
		wantUnits(t, "", true, v+"return")
		wantUnits(t, "", false,
			v+"print v; return", v+"x = add v i; return", v+"x = add i v; return", v+"zerocheck v; return", v+"store 0 p v; return", v+"put l i v; return", v+"call none v; return",
			v+"panic v", v+"if v a b; a :; return; b :; return", v+"return v", v+"jump a v; a q:int :; return", v+"jump a v; a q:none :; return", v+"jump a v; a :; return")
	}
	// The Args of a function's call that has no Params, and a Res that is TyNone.
	wantUnits(t, "", false, "fn none; return; fn main; v = call none; return v", "fn none; v = call none; return v; fn main; return")
}
