package tests

import (
	"testing"
)

// TestDeadOfEachOp: what nobody uses goes, unless it does something, or is made anew each time.
func TestDeadOfEachOp(t *testing.T) {
	for _, goes := range []string{
		"a = int 7", "a = float 1.5", "a = nil *0", "a = nil []int", "a = add i i", "a = div i i", "a = rem i i", "a = fdiv x x", "a = feq x x", "a = same p p", "a = toint x", "a = tofloat i", "a = len l", "a = load 0 p", "a = load 2 p", "a = get l i",
	} {
		wantTrimmed(t, "d", sameHeads+goes+sameTail, sameFirst+"return")
	}
	for _, stays := range []string{
		"a = new 0", "a = make []int i", "nilcheck p", "indexcheck l i", "zerocheck i", "makecheck i", "store 0 p i", "put l i i", "a = read", "print i", "print x", "call f i x p l",
	} {
		wantUntrimmed(t, "d", sameHeads+stays+sameTail)
	}
	// A call stays if what it tells is not used.
	wantUntrimmed(t, "d", "fn main; a = call f; return; fn f > int; a = int 1; return a")
}

// TestDeadButForItsUse: what is used stays: by a value that stays, by the end of a block, by an edge for a parameter that
// is needed.
func TestDeadButForItsUse(t *testing.T) {
	for _, text := range []string{
		"fn main; a = int 7; print a; return", "fn main; a = int 7; panic a", "fn f > float; a = float 7; return a; fn main; return", "fn main; a = int 1; if a b c; b :; return; c :; return",
		"fn main; a = int 0; zerocheck a; return", "fn main; a = int 3; b = make []int a; return", "struct int; fn main; p = nil *0; nilcheck p; return", "struct int; fn main; p = new 0; a = int 4; store 0 p a; return",
		"fn main; a = int 7; jump b a; b p:int :; print p; return", "struct int; fn f p:*0; a = load 0 p; print a; return; fn main; return",
		"fn main; a = int 1; b = int 2; c = add a b; d = tofloat c; e = fmul d d; print e; return", "fn f l:[]int; i = int 0; a = get l i; n = len l; b = less a n; panic b; fn main; return",
		"fn main; a = int 1; b = call f a; return; fn f p:int > int; return p",
	} {
		wantUntrimmed(t, "d", text)
	}
}

// TestChainsOfTheDead: what is used by what goes alone goes with it.
func TestChainsOfTheDead(t *testing.T) {
	wantTrimmed(t, "d", "fn main; a = int 1; b = add a a; c = tofloat b; d = fmul c c; e = toint d; f = less e a; return", "b0; return")
	wantTrimmed(t, "d", "fn main; a = int 1; b = add a a; c = tofloat b; print b; d = fmul c c; return", "b0; 0:int = int 1; 1:int = add 0 0; 2 = print 1; return")
	wantTrimmed(t, "d", "struct *0; fn f p:*0; nilcheck p; a = load 0 p; nilcheck a; b = load 0 a; c = load 0 b; d = same c a; return; fn main; return",
		"b0 0:*0; 1 = nilcheck 0; 2:*0 = load 0 0; 3 = nilcheck 2; return")
	// In other blocks, ahead and behind.
	wantTrimmed(t, "d", "fn main; jump c; a :; y = add x x; jump b; b :; z = add y y; return; c :; x = read; w = int 1; jump a",
		"b0; jump b3",
		"b1; jump b2",
		"b2; return",
		"b3; 0:int = read; jump b1")
}

// TestDeadParameters: what is brought for them is not needed by that.
func TestDeadParameters(t *testing.T) {
	wantTrimmed(t, "d", "fn main; a = int 7; jump b a; b p:int :; return",
		"b0; jump b1",
		"b1; return")
	// Only its own edge's Args use it.
	wantTrimmed(t, "d", "fn main; a = int 7; jump h a; h p:int :; r = read; if r b o; b :; jump h p; o :; return",
		"b0; jump b1",
		"b1; 0:int = read; if 0 b2 b3",
		"b2; jump b1",
		"b3; return")
	// It is counted on, but nobody looks at it.
	wantTrimmed(t, "d", "fn main; a = int 7; one = int 1; jump h a; h p:int :; r = read; q = add p one; if r b o; b :; jump h q; o :; return",
		"b0; jump b1",
		"b1; 0:int = read; if 0 b2 b3",
		"b2; jump b1",
		"b3; return")
	// Two that need each other alone, in one block and in two.
	wantTrimmed(t, "d", "fn main; a = int 7; b = int 8; jump h a b; h p:int q:int :; r = read; if r c o; c :; jump h q p; o :; return",
		"b0; jump b1",
		"b1; 0:int = read; if 0 b2 b3",
		"b2; jump b1",
		"b3; return")
	wantTrimmed(t, "d", "fn main; a = int 7; jump h a; h p:int :; s = add p p; jump i s; i q:int :; r = read; if r c o; c :; d = sub q q; jump h d; o :; return",
		"b0; jump b1",
		"b1; jump b2",
		"b2; 0:int = read; if 0 b3 b4",
		"b3; jump b1",
		"b4; return")
	// One is needed by the other one, which is put out.
	wantUntrimmed(t, "d", "fn main; a = int 7; b = int 8; jump h a b; h p:int q:int :; print p; r = read; if r c o; c :; jump h q p; o :; return")
	wantUntrimmed(t, "d", "fn main; a = int 7; b = int 8; jump h a b; h p:int q:int :; r = read; if r c o; c :; s = add p q; jump h q s; o :; panic p")
}

// TestSomeDeadParameters: the others keep their order, and so do the Args of edges.
func TestSomeDeadParameters(t *testing.T) {
	heads := "fn main; a = int 1; b = int 2; c = int 3; x = read; if x l r; l :; jump m a b c; r :; jump m c a b; m p:int q:int s:int :; "
	for _, x := range [][5]string{
		{"print q; return", "0:int = int 1; 1:int = int 2; 2:int = read; if 2 b1 b2", "1", "0", "3:int; 4 = print 3; return"},
		{"print p; panic s", "0:int = int 1; 1:int = int 2; 2:int = int 3; 3:int = read; if 3 b1 b2", "0 2", "2 1", "4:int 5:int; 6 = print 4; panic 5"},
		{"t = add s p; u = add s q; print u; return", "0:int = int 1; 1:int = int 2; 2:int = int 3; 3:int = read; if 3 b1 b2", "1 2", "0 1", "4:int 5:int; 6:int = add 5 4; 7 = print 6; return"},
		{"zerocheck p; return", "0:int = int 1; 1:int = int 3; 2:int = read; if 2 b1 b2", "0", "1", "3:int; 4 = zerocheck 3; return"},
		{"t = add s p; return", "0:int = read; if 0 b1 b2", "", "", "; return"},
	} {
		first, second, last := "b1; jump b3 "+x[2], "b2; jump b3 "+x[3], "b3 "+x[4]
		if x[2] == "" {
			first, second, last = "b1; jump b3", "b2; jump b3", "b3"+x[4]
		}
		wantTrimmed(t, "d", heads+x[0], "b0; "+x[1], first, second, last)
	}
}

// TestDeadOfBlock0: its parameters stay, used or not.
func TestDeadOfBlock0(t *testing.T) {
	wantUntrimmed(t, "d", "struct; fn f a:int b:float c:*0 d:[]int; return; fn main; return")
	wantTrimmed(t, "d", "fn f a:int b:int > int; s = add a b; jump m a b; m p:int q:int :; return q; fn main; return",
		"b0 0:int 1:int; jump b1 1",
		"b1 2:int; return 2")
}

// TestDeadWithoutItsCheck: a check stays, though what it is for goes.
func TestDeadWithoutItsCheck(t *testing.T) {
	wantTrimmed(t, "d", "struct int; fn main; p = nil *0; nilcheck p; a = load 0 p; z = int 0; zerocheck z; b = div z z; l = nil []int; indexcheck l z; c = get l z; return",
		"b0; 0:*0 = nil; 1 = nilcheck 0; 2:int = int 0; 3 = zerocheck 2; 4:[]int = nil; 5 = indexcheck 4 2; return")
	// Without a check, what was stuck goes on.
	u := unitOf("struct int; fn main; i = int 5; print i; p = nil *0; a = load 0 p; print i; return")
	if before, behind := outcomeText(runWhole(t, u, nil)), outcomeText(runWhole(t, optimized(t, u, "d"), nil)); before != "stuck in 4: 5" || behind != "exit in 4: 5 5" {
		t.Errorf("%s, then %s", before, behind)
	}
}
