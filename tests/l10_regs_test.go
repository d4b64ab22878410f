package tests

import (
	"fmt"
	"slices"
	"strings"
	"testing"

	"loop.example/g00306/impl"
)

func TestConstantsOfHomes(t *testing.T) {
	if impl.Regs != 6 || impl.MaxSlots != 400 {
		t.Error(impl.Regs, impl.MaxSlots)
	}
}

// TestLeastRegister: the least that is free, also where it became free again behind others.
func TestLeastRegister(t *testing.T) {
	wantHomes(t, "fn main; a = read; b = read; c = read; print b; d = read; print a; e = read; print c; f = read; print d; print e; print f; return",
		"a 0, b 1, c 2, d 1, e 0, f 2")
	wantHomes(t, "fn main; a = read; b = read; c = read; print a; print c; d = read; print b; e = read; print d; print e; return", "a 0, b 1, c 2, d 0, e 1")
	// Two became free: the lesser one first.
	wantHomes(t, "fn main; a = read; b = read; c = read; print c; print b; d = read; e = read; f = read; print a; print d; print e; print f; return",
		"a 0, b 1, c 2, d 1, e 2, f 3")
	// One that was in use and free several times over.
	wantHomes(t, "fn main; a = read; b = read; print a; c = read; print c; d = read; print d; e = read; print e; print b; return", "a 0, b 1, c 0, d 0, e 0")
}

// sevenReads has so many values that all are needed at its end, and what is done between.
func sevenReads(between string) string {
	return "struct; fn main; a = read; b = read; c = read; d = read; e = read; f = read; g = read; " + between + "print a; print b; print c; print d; print e; print f; print g; "
}

// TestAllRegistersInUse: then the next slot, one behind the other; and none is used twice, though nobody needs it any more.
func TestAllRegistersInUse(t *testing.T) {
	six := "a 0, b 1, c 2, d 3, e 4, f 5"
	wantHomes(t, sevenReads("")+"return", six+", g s0")
	wantHomes(t, sevenReads("h = read; i = read; print h; print i; j = read; k = read; print j; print k; ")+"return", six+", g s0, h s1, i s2, j s3, k s4")
	wantHomes(t, sevenReads("")+"x = read; print x; return", six+", g s0, x 0")
	// Behind all that, a register is free again; what asks for a slot gets the next one.
	wantHomes(t, sevenReads("")+"x = read; p = new 0; print x; y = read; q = new 0; print y; return", six+", g s0, x s1, p 0, y s2, q 0")
	// The sixth is still a register, the first one that became free is taken by the next one.
	wantHomes(t, sevenReads("h = read; print f; i = read; print g; j = read; print h; print i; print j; ")+"return", six+", g s0, h s1, i s2, j s3")
	wantHomes(t, "fn main; a = read; b = read; c = read; d = read; e = read; f = read; print f; g = read; print a; print b; print c; print d; print e; print g; return", six+", g 5")
	wantHomes(t, "fn main; a = read; b = read; c = read; d = read; e = read; f = read; print a; print b; print c; print d; print e; print f; return", six)
}

// homesTail is what is called in these tests.
const homesTail = "; fn none; return; fn one a:int > int; return a; fn two a:int b:int > int; return b"

// TestAcrossASafePlace: a slot, though registers are free; of each kind of safe place, and by each way to need it behind.
func TestAcrossASafePlace(t *testing.T) {
	for _, safe := range []string{"new 0", "make []int k", "call none", "call one k", "call two k k"} {
		heads := "struct; fn main; k = int 1; x = read; c = " + safe + "; "
		result := "c 0"
		if strings.Contains(safe, "k") {
			// The register of k, which ends there, is kept.
			result = "c 1"
		}
		if safe == "call none" {
			result = "c -"
		}
		wantHomes(t, heads+"print x; return"+homesTail, "k 0, x s0, "+result)
		wantHomes(t, heads+"panic x"+homesTail, "k 0, x s0, "+result)
		wantHomes(t, heads+"jump a x; a p:int :; return"+homesTail, "k 0, x s0, "+result+", p 0")
		wantHomes(t, heads+"jump a; a :; jump b; b :; print x; return"+homesTail, "k 0, x s0, "+result)
	}
}

// TestNotAcrossASafePlace: what the safe place makes itself, what it alone uses, what is made behind it: registers.
func TestNotAcrossASafePlace(t *testing.T) {
	wantHomes(t, "struct; fn main; p = new 0; nilcheck p; return", "p 0")
	wantHomes(t, "fn main; k = read; l = make []int k; n = len l; print n; return", "k 0, l 1, n 0")
	wantHomes(t, "fn main; k = read; x = call one k; y = call one x; print y; return"+homesTail, "k 0, x 1, y 0")
	wantHomes(t, "fn main; c = call none; x = read; print x; return"+homesTail, "c -, x 0")
	wantHomes(t, "fn main; x = read; print x; c = call none; y = read; print y; d = call none; return"+homesTail, "x 0, c -, y 0, d -")
	// In a loop that calls, what is made anew in each turn.
	wantHomes(t, "fn main; jump h; h :; c = call none; x = read; if x h o; o :; print x; return"+homesTail, "c -, x 0")
}

// TestAcrossSeveral: one that is needed across more than one safe place has one slot; each other one its own.
func TestAcrossSeveral(t *testing.T) {
	wantHomes(t, "struct; fn main; x = read; p = new 0; q = new 0; r = new 0; print x; y = read; return", "x s0, p 0, q 0, r 0, y 0")
	wantHomes(t, "struct; fn main; p = new 0; q = new 0; r = new 0; s = same p q; t = same q r; print s; print t; return", "p s0, q s1, r 0, s 1, t 2")
	wantHomes(t, "struct; fn main; x = read; y = read; p = new 0; print x; q = new 0; print y; z = read; r = new 0; print z; return", "x s0, y s1, p 0, q 0, z s2, r 0")
	// By the beginnings of their spans, not by numbers nor by which comes to a safe place first.
	wantHomes(t, "struct; fn main; jump b; a :; p = new 0; print x; return; b :; y = read; x = read; q = new 0; print y; jump a", "p 0, y s1, x s0, q 0")
	// Across by one of two ways is across.
	wantHomes(t, "struct; fn main; c = read; x = read; if c a b; a :; p = new 0; jump d; b :; jump d; d :; print x; return", "c 0, x s0, p 0")
	wantHomes(t, "struct; fn main; c = read; x = read; if c a b; a :; p = new 0; jump d; b :; print x; jump d; d :; return", "c 0, x 1, p 0")
	// Round a loop: used ahead of the safe place alone, but in the next turn once more.
	wantHomes(t, "struct; fn main; x = read; jump h; h :; print x; p = new 0; jump h", "x s0, p 0")
	wantHomes(t, "struct; fn main; x = read; jump h x; h p:int :; q = new 0; jump h p", "x 0, p s0, q 0")
}

// TestParametersHomes: of block 0 and of others, across a safe place or not, more than there are registers.
func TestParametersHomes(t *testing.T) {
	tail := homesTail + "; fn main; return"
	wantHomes(t, "struct; fn f a:int b:*0 c:[]int d:float; print d; x = call none; nilcheck b; return"+tail, "a 0, b s0, c 1, d 2, x -")
	wantHomes(t, "struct; fn f a:int b:int; jump x a b; x p:int q:int :; c = new 0; jump y q; y r:int :; d = new 0; print r; return"+tail, "a 0, b 1, p 0, q s0, c 0, r s1, d 0")
	wantHomes(t, "struct; fn main; x = read; jump a x x x x x x x x; a p:int q:int r:int s:int u:int v:int w:int y:int :; c = call none; print q; print v; return"+homesTail,
		"x 0, p 0, q s0, r 1, s 2, u 3, v s1, w 4, y 5, c -")
}

// TestNoHomes: each op that has no type, a call of a function without a result among them, has none, and takes neither a
// register nor a slot.
func TestNoHomes(t *testing.T) {
	heads := "struct int *0; fn main; i = read; x = float 1; p = nil *0; l = nil []int; "
	kept := "i 0, x 1, p 2, l 3"
	for _, op := range []string{"nilcheck p", "indexcheck l i", "zerocheck i", "makecheck i", "store 0 p i", "store 1 p p", "put l i i", "print i", "print x"} {
		tail := "; a = read; b = read; c = read; d = add i a; zerocheck c; zerocheck b; zerocheck a; print x; nilcheck p; n = len l; return"
		wantHomes(t, heads+"v = "+op+tail, kept+", v -, a 4, b 5, c s0, d s1, n 0")
		wantHomes(t, heads+"v = "+op+strings.Repeat("; "+op, 9)+"; w = "+op+tail, kept+", v -, w -, a 4, b 5, c s0, d s1, n 0")
	}
	wantHomes(t, heads+"v = call none; a = read; print a; return"+homesTail, "i 0, x 0, p 0, l 0, v -, a 0")
	wantHomes(t, heads+"v = call none; w = call main; a = read; b = call none; print a; print x; return"+homesTail, "i 0, x s0, p 0, l 0, v -, w -, a s1, b -")
	// A call with a result has a home.
	wantHomes(t, heads+"v = call one i; w = call two v v; return"+homesTail, "i 0, x 1, p 1, l 1, v 1, w 0")
}

// TestEachOpHasAHome: a value of each op that has a type gets the register that is free.
func TestEachOpHasAHome(t *testing.T) {
	seen := make([]bool, impl.VaCall+1)
	for _, op := range []string{
		"int 7", "float 1.5", "nil *0", "nil []*0", "add i j", "fless x y", "fmul x y", "same p q", "toint x", "tofloat i", "len l", "new 0", "make []int i", "load 0 p", "load 1 p", "get l i", "get m i", "read", "call one i",
	} {
		heads := "struct int *0; fn main; k = int 5; i = read; j = read; x = float 1; y = float 2; p = nil *0; q = nil *0; l = nil []int; m = nil []*0; zerocheck j; nilcheck q; h = fadd y y; o = len m; v = " + op + "; "
		a := asmOf(heads + "return" + homesTail)
		f := a.unit.Fns[0]
		v := a.fns[0].vals["v"]
		seen[f.Vals[v].Op] = true
		list, ok := homes(t, a.unit, 0)
		if !ok || list[v] < 0 || list[v] >= impl.Regs {
			t.Errorf("%s: %v, %v", op, ok, list)
		}
	}
	for op, is := range seen {
		if none := []int{impl.VaPhi, impl.VaNilCheck, impl.VaIndexCheck, impl.VaZeroCheck, impl.VaMakeCheck, impl.VaStore, impl.VaPut, impl.VaPrint}; is == slices.Contains(none, op) {
			t.Errorf("the op %d comes up: %v", op, is)
		}
	}
	// Parameters of each type.
	for _, ty := range []string{"int", "float", "*0", "[]int", "[]float", "[]*0"} {
		wantHomes(t, "struct; fn f a:"+ty+" b:"+ty+" > "+ty+"; jump x b; x p:"+ty+" :; return p; fn main; return", "a 0, b 1, p 0")
	}
}

// TestHomesOfEachFunction: each by itself, main or not; one without values has no homes, and that is told.
func TestHomesOfEachFunction(t *testing.T) {
	u := unitOf("struct; fn f a:int > int; c = call g; return a; fn main; x = read; y = call f x; print x; print y; return; fn g; return; fn h; jump a; a :; jump a")
	for n, want := range []string{"[6 -1]", "[6 0 -1 -1]", "[]", "[]"} {
		list, ok := homes(t, u, n)
		if got := fmt.Sprint(list); !ok || got != want {
			t.Errorf("%d: %v, %s, want %s", n, ok, got, want)
		}
	}
	for main := range 2 {
		// Which one is main plays no part.
		other := unitOf("fn f; x = read; y = add x x; print y; return; fn main; return")
		other.Main = main
		if list, ok := homes(t, other, 0); !ok || fmt.Sprint(list) != "[0 1 -1]" {
			t.Errorf("main %d: %v, %v", main, ok, list)
		}
	}
}

// TestHomesOfSources: the homes of a source's functions, written out.
func TestHomesOfSources(t *testing.T) {
	u := loweredText(t, "func f ( a int ) int { return a ; } func main ( ) { var i int ; var k int ; k = read ; for ( i < k ) { i = ( i + f ( i ) ) ; } print i ; }")
	// 0 i, 1 k, 2 read; 3 the loop's i, 4 less; 5 the call, 6 the sum; 7 the print.
	list, ok := homes(t, u, 1)
	if got := fmt.Sprint(list); !ok || got != "[0 1 6 7 0 0 1 -1]" {
		t.Errorf("%v, %s", ok, got)
	}
	if list, ok := homes(t, u, 0); !ok || fmt.Sprint(list) != "[0]" {
		t.Errorf("%v, %v", ok, list)
	}
}
