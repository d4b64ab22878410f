package tests

import (
	"slices"
	"testing"

	"loop.example/g00306/impl"
)

// wantPlaced is wantSpans and wantHomes of one text.
func wantPlaced(t *testing.T, text string, spans string, homes string) {
	t.Helper()
	wantSpans(t, text, spans)
	wantHomes(t, text, homes)
}

// TestPlacesOfBlocks: a block's beginning, its Code, its end, block by block; an empty block has two.
func TestPlacesOfBlocks(t *testing.T) {
	u := unitOf("fn main; x = read; jump a; a :; jump b; b :; print x; y = read; return")
	want := []standing{{0, -1}, {0, 0}, {0, 1}, {1, -1}, {1, 0}, {2, -1}, {2, 0}, {2, 1}, {2, 2}}
	if got := placesOf(u.Fns[0]); !slices.Equal(got, want) {
		t.Error(got)
	}
	wantPlaced(t, "fn main; x = read; jump a; a :; jump b; b :; print x; y = read; return", "x 1 6, y 7 7", "x 0, y 0")
	wantPlaced(t, "fn main; x = read; jump a; a :; jump b x; b p:int :; y = read; print p; return", "x 1 4, p 5 7, y 6 6", "x 0, p 0, y 1")
	wantPlaced(t, "fn main; jump a; a :; jump b; b :; x = read; return", "x 5 5", "x 0")
	wantPlaced(t, "fn f a:int b:int; jump x a; x p:int :; jump y p; y q:int :; panic q; fn main; return", "a 0 1, b 0 0, p 2 3, q 4 5", "a 0, b 1, p 0, q 0")
}

// TestEndsAndBeginningsDoNotTouch: what an edge brings and the parameter that it is brought for are one place apart.
func TestEndsAndBeginningsDoNotTouch(t *testing.T) {
	wantPlaced(t, "fn main; x = read; jump a x; a p:int :; print p; return", "x 1 2, p 3 4", "x 0, p 0")
	wantPlaced(t, "fn main; x = read; y = read; jump a y x; a p:int q:int :; r = sub p q; panic r", "x 1 3, y 2 3, p 4 5, q 4 5, r 5 6", "x 0, y 1, p 0, q 1, r 2")
	// What goes on into the block keeps its own register.
	wantPlaced(t, "fn main; x = read; y = read; jump a y; a p:int :; r = sub p x; panic r", "x 1 5, y 2 3, p 4 5, r 5 6", "x 0, y 1, p 1, r 2")
}

// TestNobodyUses: the span is the one place where it is made, of a parameter the block's beginning.
func TestNobodyUses(t *testing.T) {
	wantPlaced(t, "fn main; x = read; y = read; z = read; return", "x 1 1, y 2 2, z 3 3", "x 0, y 0, z 0")
	wantPlaced(t, "fn main; x = read; y = read; print x; z = read; return", "x 1 3, y 2 2, z 4 4", "x 0, y 1, z 0")
	wantPlaced(t, "fn f a:int b:float; x = read; return; fn main; return", "a 0 0, b 0 0, x 1 1", "a 0, b 1, x 0")
	wantPlaced(t, "fn main; x = read; jump a x x; a p:int q:int :; y = read; print y; return", "x 1 2, p 3 3, q 3 3, y 4 5", "x 0, p 0, q 1, y 0")
	// As long as something else is needed.
	wantPlaced(t, "fn main; x = read; jump a x; a p:int :; y = read; z = add x x; print z; return", "x 1 5, p 3 3, y 4 4, z 5 6", "x 0, p 1, y 1, z 1")
	wantPlaced(t, "struct; fn main; p = new 0; x = call f; l = nil []int; return; fn f > int; k = int 1; return k", "p 1 1, x 2 2, l 3 3", "p 0, x 0, l 0")
}

// TestSpansThatTouch: one that ends where the other one begins keeps its register; one that ends a place ahead does not.
func TestSpansThatTouch(t *testing.T) {
	wantPlaced(t, "fn main; x = read; y = add x x; print y; return", "x 1 2, y 2 3", "x 0, y 1")
	wantPlaced(t, "fn main; x = read; print x; y = read; print y; return", "x 1 2, y 3 4", "x 0, y 0")
	wantPlaced(t, "fn main; x = read; y = add x x; z = add y y; w = add z z; print w; return", "x 1 2, y 2 3, z 3 4, w 4 5", "x 0, y 1, z 0, w 1")
	wantPlaced(t, "fn main; x = read; y = read; z = add x y; print z; return", "x 1 3, y 2 3, z 3 4", "x 0, y 1, z 2")
	wantPlaced(t, "fn main; x = read; y = read; zerocheck y; z = add x x; print z; return", "x 1 4, y 2 3, z 4 5", "x 0, y 1, z 1")
	wantPlaced(t, "fn f a:int > int; b = add a a; return b; fn main; return", "a 0 1, b 1 2", "a 0, b 1")
	wantPlaced(t, "fn f a:int b:int > int; c = int 1; d = add b c; return d; fn main; return", "a 0 0, b 0 2, c 1 2, d 2 3", "a 0, b 1, c 0, d 2")
	// One that nobody uses touches what is made there just so.
	wantPlaced(t, "struct int; fn f a:*0 > int; b = load 0 a; c = load 0 a; return c; fn main; return", "a 0 2, b 1 1, c 2 3", "a 0, b 1, c 1")
	// All six are kept by what ends there: the seventh goes into a slot; a place further on it does not.
	heads := "fn main; a = read; b = read; c = read; d = read; e = read; f = read; "
	tail := "print b; print c; print d; print e; print f; print g; return"
	wantHomes(t, heads+"g = add a a; "+tail, "a 0, b 1, c 2, d 3, e 4, f 5, g s0")
	wantHomes(t, heads+"print a; g = read; "+tail, "a 0, b 1, c 2, d 3, e 4, f 5, g 0")
}

// TestBeginAtOnePlace: parameters of one block, by number, whatever their order in Params.
func TestBeginAtOnePlace(t *testing.T) {
	text := "fn f a:int b:float c:[]int d:int; print a; print d; n = len c; print n; print b; return; fn main; return"
	wantPlaced(t, text, "a 0 1, b 0 5, c 0 3, d 0 2, n 3 4", "a 0, b 1, c 2, d 3, n 0")
	// The other way round d has the least number: n 4, print .., d 5, c 6, b 7, a 8.
	list, ok := homes(t, turnedNumbers(unitOf(text)), 0)
	if want := []int{-1, -1, 0, -1, -1, 0, 1, 2, 3}; !ok || !slices.Equal(list, want) {
		t.Errorf("%v: %v, want %v", ok, list, want)
	}
	// Seven at one place: the one with the greatest number goes into a slot.
	wantHomes(t, "fn main; x = read; jump a x x x x x x x; a p:int q:int r:int s:int u:int v:int w:int :; return", "x 0, p 0, q 1, r 2, s 3, u 4, v 5, w s0")
	// A value of Code and a parameter never begin at one place, but what is in In of a block ahead does so with its Params.
	f := impl.Fn{
		Vals: []impl.Val{{Op: impl.VaPrint, Args: []int{3}}, {Op: impl.VaPrint, Args: []int{2}}, {Op: impl.VaRead, Ty: tyInt()}, {Ty: tyInt()}, {Op: impl.VaRead, Ty: tyInt()}},
		Blocks: []impl.Block{
			{Code: []int{}, Out: []impl.Edge{{To: 2}}},
			{Params: []int{3}, Code: []int{0, 1}, Term: impl.TmReturn},
			{Code: []int{2, 4}, Out: []impl.Edge{{To: 1, Args: []int{4}}}},
		},
	}
	// Places: 0 1; 2 .. 5; 6 7 8 9. The value 2 is kept from 2 on, as 3 is.
	list, ok = homes(t, impl.Unit{Fns: []impl.Fn{f}}, 0)
	if want := []int{-1, -1, 0, 1, 1}; !ok || !slices.Equal(list, want) {
		t.Errorf("%v: %v, want %v", ok, list, want)
	}
	list, ok = homes(t, turnedNumbers(impl.Unit{Fns: []impl.Fn{f}}), 0)
	if want := []int{0, 0, 1, -1, -1}; !ok || !slices.Equal(list, want) {
		t.Errorf("%v: %v, want %v", ok, list, want)
	}
}

// TestUsedByEnds: the span goes to the end of a block whose Args or edges use it, though nobody else does.
func TestUsedByEnds(t *testing.T) {
	heads := "fn main; x = read; y = read; "
	wantPlaced(t, heads+"panic x", "x 1 3, y 2 2", "x 0, y 1")
	wantPlaced(t, heads+"panic y", "x 1 1, y 2 3", "x 0, y 0")
	wantPlaced(t, heads+"if x a b; a :; return; b :; return", "x 1 3, y 2 2", "x 0, y 1")
	wantPlaced(t, heads+"jump a x; a p:int :; return", "x 1 3, y 2 2, p 4 4", "x 0, y 1, p 0")
	wantPlaced(t, heads+"jump a y x; a p:int q:int :; return", "x 1 3, y 2 3, p 4 4, q 4 4", "x 0, y 1, p 0, q 1")
	wantPlaced(t, "fn f > int; x = read; y = read; return x; fn main; return", "x 1 3, y 2 2", "x 0, y 1")
	wantPlaced(t, "fn f > float; x = float 1; y = read; return x; fn main; return", "x 1 3, y 2 2", "x 0, y 1")
	// In a later block.
	wantPlaced(t, "fn main; x = read; jump a; a :; y = read; panic x", "x 1 5, y 4 4", "x 0, y 1")
	wantPlaced(t, "fn main; x = read; jump a; a :; y = read; jump b x; b p:int :; print p; return", "x 1 5, y 4 4, p 6 7", "x 0, y 1, p 0")
	wantPlaced(t, "fn main; x = read; jump a; a :; y = read; if x b c; b :; return; c :; z = read; return", "x 1 5, y 4 4, z 9 9", "x 0, y 1, z 0")
}

// TestUsedByValues: the span goes to the last of those that use it.
func TestUsedByValues(t *testing.T) {
	wantPlaced(t, "fn main; x = read; print x; y = read; print x; z = read; return", "x 1 4, y 3 3, z 5 5", "x 0, y 1, z 0")
	// Of a value with several Args each is used.
	heads := "struct int; fn main; l = nil []int; i = read; x = read; "
	wantPlaced(t, heads+"put l i x; a = read; return", "l 1 4, i 2 4, x 3 4, a 5 5", "l 0, i 1, x 2, a 0")
	wantPlaced(t, heads+"a = read; put l i x; return", "l 1 5, i 2 5, x 3 5, a 4 4", "l 0, i 1, x 2, a 3")
	// In a later block: not to that block's end.
	wantPlaced(t, "fn main; x = read; jump a; a :; y = read; print x; z = read; return", "x 1 5, y 4 4, z 6 6", "x 0, y 1, z 0")
	// In its own block alone, in a loop: each turn begins anew.
	wantPlaced(t, "fn main; jump h; h :; x = read; print x; y = read; jump h", "x 3 4, y 5 5", "x 0, y 0")
}

// TestKeptOverBlocks: what is in Out of a block and in In of the next one, used there or not.
func TestKeptOverBlocks(t *testing.T) {
	wantPlaced(t, "fn main; x = read; jump m; m :; y = read; jump o; o :; print x; z = read; return", "x 1 7, y 4 4, z 8 8", "x 0, y 1, z 0")
	// Out of the last block, by an edge back: to its end.
	wantPlaced(t, "fn main; x = read; jump h; h :; print x; jump b; b :; y = read; print y; jump h", "x 1 9, y 7 8", "x 0, y 1")
	wantPlaced(t, "fn main; x = read; jump h; h :; y = read; print x; z = read; jump h", "x 1 7, y 4 4, z 6 6", "x 0, y 1, z 1")
	// A loop's own parameter is not kept to the end, unless the body uses it there.
	wantPlaced(t, "fn main; x = read; jump h x; h p:int :; y = add p p; z = read; jump h y", "x 1 2, p 3 4, y 4 6, z 5 5", "x 0, p 0, y 1, z 0")
	wantPlaced(t, "fn main; x = read; jump h x; h p:int :; z = read; jump h p", "x 1 2, p 3 5, z 4 4", "x 0, p 0, z 1")
	// In one of two ways only; the other one lies between by its number, and so is taken in.
	wantPlaced(t, "fn main; c = read; x = read; if c a b; a :; y = read; print y; jump d; b :; print x; jump d; d :; z = read; return",
		"c 1 3, x 2 9, y 5 6, z 12 12", "c 0, x 1, y 0, z 0")
	wantPlaced(t, "fn main; c = read; x = read; if c a b; a :; print x; jump d; b :; y = read; print y; jump d; d :; return", "c 1 3, x 2 5, y 8 9", "c 0, x 1, y 0")
}

// TestAheadOfWhereItIsMade: one that is in In of a block whose number is less than that of the one that makes it begins
// with that block, and goes on to the end of the one that makes it.
func TestAheadOfWhereItIsMade(t *testing.T) {
	wantPlaced(t, "fn main; jump c; a :; print x; return; b :; y = read; print y; jump a; c :; x = read; jump b",
		"y 6 7, x 2 11", "y 1, x 0")
	wantPlaced(t, "fn main; jump b; a :; y = read; print x; z = read; return; b :; w = read; x = read; jump a", "y 3 3, z 5 5, w 8 8, x 2 10", "y 1, z 1, w 1, x 0")
	// Only the first such block counts; what is not in In of the block ahead of it begins later.
	wantPlaced(t, "fn main; jump c; a :; k = read; print k; jump d; b :; print x; jump a; c :; x = read; jump b; d :; return", "k 3 4, x 6 11", "k 0, x 0")
	// Brought by an edge alone.
	wantPlaced(t, "fn main; jump c; a p:int :; print p; return; b :; y = read; jump a x; c :; x = read; jump b", "p 2 3, y 6 6, x 5 10", "p 0, y 1, x 0")
	// A parameter, used in a block with a lesser number than its own.
	wantPlaced(t, "fn main; i = read; jump c i; a :; y = read; print p; return; c p:int :; jump a", "i 1 2, y 4 4, p 3 8", "i 0, y 1, p 0")
	// A block that follows itself, ahead of the one that makes it.
	wantPlaced(t, "fn main; jump c; a :; y = read; print x; if y a o; o :; return; c :; x = read; jump a", "y 3 5, x 2 10", "y 1, x 0")
	// Made in a block ahead of all but block 0, as blocks of sources are: where it is made.
	wantPlaced(t, "fn main; jump a; a :; y = read; x = read; jump b; b :; print x; print y; return", "y 3 8, x 4 7", "y 0, x 1")
}

// TestNumbersAgainstTheWay: spans hang on where values stand, not on their numbers.
func TestNumbersAgainstTheWay(t *testing.T) {
	num := tyInt()
	f := impl.Fn{
		Vals: []impl.Val{
			{Op: impl.VaPrint, Args: []int{1}},
			{Op: impl.VaArith, Ty: num, Args: []int{3, 2}},
			{Op: impl.VaRead, Ty: num},
			{Op: impl.VaRead, Ty: num},
			{Op: impl.VaPrint, Args: []int{3}},
		},
		Blocks: []impl.Block{{Code: []int{3, 2, 1, 0}, Out: []impl.Edge{{To: 1}}}, {Code: []int{4}, Term: impl.TmReturn}},
	}
	list, ok := homes(t, impl.Unit{Fns: []impl.Fn{f}}, 0)
	if want := []int{-1, 2, 1, 0, -1}; !ok || !slices.Equal(list, want) {
		t.Errorf("%v: %v, want %v", ok, list, want)
	}
	// The other way round the same values have the same homes, since no two begin at one place.
	list, _ = homes(t, turnedNumbers(impl.Unit{Fns: []impl.Fn{f}}), 0)
	if want := []int{-1, 0, 1, 2, -1}; !slices.Equal(list, want) {
		t.Errorf("%v, want %v", list, want)
	}
}
