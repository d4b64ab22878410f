package tests

import (
	"strings"
	"testing"
)

// sameHeads are a function's, with values of all types ahead of what is twice in it.
const sameHeads = "struct int float *0; struct int; fn f i:int x:float p:*0 l:[]int; "

const (
	sameTail  = "; return; fn main; return"
	sameFirst = "b0 0:int 1:float 2:*0 3:[]int; "
)

// TestSameInOneBlock: the second of each op that may be shared goes, and the first stands in its place.
func TestSameInOneBlock(t *testing.T) {
	for _, x := range [][2]string{
		{"a = int 7; b = int 7; print a; print b", "4:int = int 7; 5 = print 4; 6 = print 4"},
		{"a = int 0; b = int 0; print b", "4:int = int 0; 5 = print 4"},
		{"a = float 1.5; b = float 1.5; print b", "4:float = float 1.5; 5 = fprint 4"},
		{"a = float nan; b = float nan; print b", "4:float = float NaN; 5 = fprint 4"},
		{"a = nil *0; b = nil *0; nilcheck b", "4:*0 = nil; 5 = nilcheck 4"},
		{"a = nil []int; b = nil []int; c = len b", "4:[]int = nil; 5:int = len 4"},
		{"a = add i i; b = add i i; print b", "4:int = add 0 0; 5 = print 4"},
		{"a = div i i; b = div i i; print b", "4:int = div 0 0; 5 = print 4"},
		{"a = fmul x x; b = fmul x x; print b", "4:float = fmul 1 1; 5 = fprint 4"},
		{"a = fless x x; b = fless x x; print b", "4:int = fless 1 1; 5 = print 4"},
		{"a = same p p; b = same p p; print b", "4:int = same 2 2; 5 = print 4"},
		{"a = toint x; b = toint x; print b", "4:int = toint 1; 5 = print 4"},
		{"a = tofloat i; b = tofloat i; print b", "4:float = tofloat 0; 5 = fprint 4"},
		{"a = len l; b = len l; print b", "4:int = len 3; 5 = print 4"},
		{"nilcheck p; nilcheck p", "4 = nilcheck 2"},
		{"indexcheck l i; indexcheck l i", "4 = indexcheck 3 0"},
		{"zerocheck i; zerocheck i", "4 = zerocheck 0"},
		{"makecheck i; makecheck i", "4 = makecheck 0"},
		// What is done in between does not matter.
		{"nilcheck p; store 0 p i; call f i x p l; nilcheck p; a = len l; put l i i; b = len l; print b", "4 = nilcheck 2; 5 = store 0 2 0; 6 = call 0 0 1 2 3; 7:int = len 3; 8 = put 3 0 0; 9 = print 7"},
	} {
		wantTrimmed(t, "s", sameHeads+x[0]+sameTail, sameFirst+x[1]+"; return")
	}
}

// TestSameThatStays: what may be another each time, or does something each time.
func TestSameThatStays(t *testing.T) {
	for _, stays := range []string{
		"a = new 0; b = new 0", "a = new 1; b = new 1; c = same a b; print c", "a = make []int i; b = make []int i", "a = load 0 p; b = load 0 p; print b", "a = get l i; b = get l i; print b",
		"a = read; b = read; print b", "print i; print i", "call f i x p l; call f i x p l", "store 0 p i; store 0 p i", "put l i i; put l i i",
	} {
		wantUntrimmed(t, "s", sameHeads+stays+sameTail)
	}
	// Parameters of a block that are always the same.
	wantUntrimmed(t, "s", "fn main; x = read; jump a x x; a p:int q:int :; y = add p q; print y; return")
}

// TestAlmostTheSame: equal but for the op, for N, for the type, for one of the Args, or for their order.
func TestAlmostTheSame(t *testing.T) {
	for _, stays := range []string{
		"a = int 7; b = int 8", "a = int 7; b = int -7", "a = int 0; b = float 0", "a = float 0; b = float -0", "a = float 1; b = float 2",
		"a = nil *0; b = nil *1", "a = nil []int; b = nil []float; c = nil []*0; d = nil []*1; e = nil *0",
		"a = add i i; b = sub i i; c = mul i i; d = div i i; e = rem i i; g = less i i; h = eq i i", "a = fadd x x; b = fsub x x; c = fmul x x; d = fdiv x x; e = fless x x; g = feq x x",
		"r = read; a = add i r; b = add r i; c = add r r; d = add i i", "r = read; y = tofloat r; a = fmul x y; b = fmul y x; c = fmul x x; d = fmul y y", "q = new 0; a = same p q; b = same q p; c = same p p",
		"r = read; a = tofloat i; b = tofloat r", "y = float 1; a = toint x; b = toint y", "m = make []int i; a = len l; b = len m",
		"q = new 0; nilcheck p; nilcheck q", "r = read; m = make []int i; indexcheck l i; indexcheck m i; indexcheck l r; indexcheck m r", "r = read; zerocheck i; zerocheck r; makecheck i; makecheck r",
		"a = add i i; b = fadd x x",
	} {
		wantUntrimmed(t, "s", sameHeads+stays+sameTail)
	}
}

// TestSameWithWhatWasReplaced: Args that are the same only with what stands in the place of others now.
func TestSameWithWhatWasReplaced(t *testing.T) {
	wantOneTrimmed(t, "s", "fn main; ", [][2]string{
		{"x = read; a = int 1; b = int 1; c = add x a; d = add x b; e = mul c d; f = mul d c; print e; print f; return",
			"0:int = read; 1:int = int 1; 2:int = add 0 1; 3:int = mul 2 2; 4 = print 3; 5 = print 3; return"},
		{"x = read; a = tofloat x; b = tofloat x; c = toint a; d = toint b; zerocheck c; zerocheck d; print d; return",
			"0:int = read; 1:float = tofloat 0; 2:int = toint 1; 3 = zerocheck 2; 4 = print 2; return"},
	})
	// Two that are loaded are two, and so are the sums of them.
	wantTrimmed(t, "s", "struct int; fn f p:*0; a = load 0 p; b = load 0 p; c = add a a; d = add b b; print c; print d; return; fn main; return",
		"b0 0:*0; 1:int = load 0 0; 2:int = load 0 0; 3:int = add 1 1; 4:int = add 2 2; 5 = print 3; 6 = print 4; return")
}

// TestThreeOfAKind: the first stands in the place of both.
func TestThreeOfAKind(t *testing.T) {
	wantTrimmed(t, "s", "fn main; a = int 3; b = int 3; c = int 3; print a; print b; print c; d = int 3; panic d",
		"b0; 0:int = int 3; 1 = print 0; 2 = print 0; 3 = print 0; panic 0")
	wantTrimmed(t, "s", "fn main; a = int 3; print a; jump m; m :; b = int 3; print b; jump n; n :; c = int 3; print c; return",
		"b0; 0:int = int 3; 1 = print 0; jump b1",
		"b1; 2 = print 0; jump b2",
		"b2; 3 = print 0; return")
}

// TestSameInOtherBlocks: in one that is on all ways to it, however far; not in one beside it or behind it.
func TestSameInOtherBlocks(t *testing.T) {
	wantTrimmed(t, "s", "fn main; x = read; a = add x x; if x l r; l :; b = add x x; print b; jump m b; r :; c = add x x; print c; jump m c; m p:int :; d = add x x; s = add p d; panic s",
		"b0; 0:int = read; 1:int = add 0 0; if 0 b1 b2",
		"b1; 2 = print 1; jump b3 1",
		"b2; 3 = print 1; jump b3 1",
		"b3 4:int; 5:int = add 4 1; panic 5")
	// Neither of both is on all ways to the other one, nor to the block where the ways meet.
	wantUntrimmed(t, "s", "fn main; x = read; if x l r; l :; b = add x x; print b; jump m; r :; c = add x x; print c; jump m; m :; d = add x x; print d; return")
	wantUntrimmed(t, "s", "fn main; x = read; if x l m; l :; b = add x x; zerocheck x; print b; jump m; m :; d = add x x; zerocheck x; print d; return")
	// In a loop: what is ahead of it and in its head counts in its body and behind it; what is in its body does not behind it.
	wantTrimmed(t, "s", "fn main; x = read; jump h; h :; a = int 5; r = read; zerocheck r; if r b o; b :; c = int 5; d = add x c; zerocheck r; print d; jump h; o :; e = int 5; g = add x e; print g; return",
		"b0; 0:int = read; jump b1",
		"b1; 1:int = int 5; 2:int = read; 3 = zerocheck 2; if 2 b2 b3",
		"b2; 4:int = add 0 1; 5 = print 4; jump b1",
		"b3; 6:int = add 0 1; 7 = print 6; return")
	// Each function has its own.
	wantUntrimmed(t, "s", "fn f > int; a = int 1; return a; fn main; a = int 1; print a; return")
}

// TestUsesOfSame: as Args of values, of blocks, of edges, also in blocks with lesser numbers.
func TestUsesOfSame(t *testing.T) {
	wantTrimmed(t, "s", "fn main; jump c; a p:int :; s = add p y; if y d e; c :; x = int 4; y = int 4; jump a y; d :; print y; panic y; e :; return",
		"b0; jump b2",
		"b1 0:int; 1:int = add 0 2; if 2 b3 b4",
		"b2; 2:int = int 4; jump b1 2",
		"b3; 3 = print 2; panic 2",
		"b4; return")
}

// TestSameInBlocksOutOfOrder: a block whose number is less is looked at first, even if it comes later on the way. What is
// in it is not found ahead; and what is in the other one is not found behind, but for those that are looked at later yet.
func TestSameInBlocksOutOfOrder(t *testing.T) {
	wantUntrimmed(t, "s", "fn main; jump c; a :; x = int 4; print x; return; c :; y = int 4; print y; jump a")
	wantTrimmed(t, "ss", "fn main; jump c; a :; x = int 4; y = int 4; print y; return; c :; z = int 4; w = int 4; print w; jump a",
		"b0; jump b2",
		"b1; 0:int = int 4; 1 = print 0; return",
		"b2; 2:int = int 4; 3 = print 2; jump b1")
	// Both are on all ways to the last one: the first that was kept stands for it.
	wantTrimmed(t, "s", "fn main; jump c; a :; x = int 4; print x; jump d; c :; y = int 4; print y; jump a; d :; z = int 4; print z; return",
		"b0; jump b2",
		"b1; 0:int = int 4; 1 = print 0; jump b3",
		"b2; 2:int = int 4; 3 = print 2; jump b1",
		"b3; 4 = print 0; return")
	// What was kept uses a value that goes later: it is the same as others that use what stands for that.
	wantTrimmed(t, "s", "fn main; r = read; jump c; a :; x = add r z; print x; jump d; c :; y = int 4; z = int 4; print z; jump a; d :; u = add r y; v = add r z; print u; print v; return",
		"b0; 0:int = read; jump b2",
		"b1; 1:int = add 0 3; 2 = print 1; jump b3",
		"b2; 3:int = int 4; 4 = print 3; jump b1",
		"b3; 5 = print 1; 6 = print 1; return")
	// Others that use it may have more Args, and are like nothing.
	wantTrimmed(t, "s", "fn f i:int j:int k:int l:[]int; jump c; a :; put l z z; call f z z z l; u = get l z; print u; jump d; c :; y = int 4; z = int 4; jump a; d :; v = get l y; print v; return; fn main; return",
		"b0 0:int 1:int 2:int 3:[]int; jump b2",
		"b1; 4 = put 3 8 8; 5 = call 0 8 8 8 3; 6:int = get 3 8; 7 = print 6; jump b3",
		"b2; 8:int = int 4; jump b1",
		"b3; 9:int = get 3 8; 10 = print 9; return")
	// Two that were kept come to be the same by that: the first one stands for a third, and the second one stays.
	wantTrimmed(t, "s", "fn main; r = read; jump c; a :; w = add r y; x = add r z; print w; print x; jump d; c :; y = int 4; z = int 4; jump a; d :; u = add r z; print u; return",
		"b0; 0:int = read; jump b2",
		"b1; 1:int = add 0 5; 2:int = add 0 5; 3 = print 1; 4 = print 2; jump b3",
		"b2; 5:int = int 4; jump b1",
		"b3; 6 = print 1; return")
	wantTrimmed(t, "s", "fn main; r = read; jump c; a :; x = add r z; w = add r y; print w; print x; jump d; c :; y = int 4; z = int 4; jump a; d :; u = add r z; print u; return",
		"b0; 0:int = read; jump b2",
		"b1; 1:int = add 0 5; 2:int = add 0 5; 3 = print 2; 4 = print 1; jump b3",
		"b2; 5:int = int 4; jump b1",
		"b3; 6 = print 1; return")
}

// TestManyOfAKind: as many values as there may be, all the same, or each different.
func TestManyOfAKind(t *testing.T) {
	const count = 2998
	same := "fn main; " + strings.Repeat("a = int 5; ", count) + "print a; panic a"
	wantTrimmed(t, "s", same, "b0; 0:int = int 5; 1 = print 0; panic 0")
	sums := "fn main; a = int 1; " + strings.Repeat("a = add #0 #0; ", count) + "panic a"
	wantTrimmed(t, "s", sums, "b0; 0:int = int 1; 1:int = add 0 0; panic 1")
}
