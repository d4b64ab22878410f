package tests

import (
	"fmt"
	"testing"

	"loop.example/g00306/impl"
)

// TestAcrossTellsEachValue: a list for each, empty for all but safe places, none for a function without values.
func TestAcrossTellsEachValue(t *testing.T) {
	for text, count := range map[string]int{"fn main; return": 0, "fn main; jump a; a :; return": 0, "fn main; x = read; return": 1, "fn f a:int b:int; x = add a b; jump c x; c p:int :; print p; return; fn main; return": 5} {
		lists := across(t, unitOf(text), 0)
		if len(lists) != count {
			t.Errorf("%d lists of %s", len(lists), text)
		}
		for v, list := range lists {
			if len(list) > 0 {
				t.Errorf("across %d: %v of %s", v, list, text)
			}
		}
	}
	// Each list stands at the number of its value.
	u := unitOf("struct; fn main; x = read; p = new 0; y = read; q = new 0; nilcheck p; nilcheck q; s = add x y; print s; return")
	if got := fmt.Sprint(across(t, u, 0)); got != "[[] [0] [] [0 1 2] [] [] [] []]" {
		t.Error(got)
	}
	wantTurnedAlike(t, u)
}

// acrossTail is what is called in these tests, and a struct ahead of that.
const acrossTail = "; fn none; return; fn one a:int > int; return a; fn two a:int b:int > int; return b"

// TestNeededBehindASafePlace: by Code further behind, by the block's Args, by Args of its edges, in Out; of each kind of
// safe place.
func TestNeededBehindASafePlace(t *testing.T) {
	for _, safe := range []string{"new 0", "make []int k", "call none", "call one k", "call two k k"} {
		heads := "struct; fn main; k = int 1; x = read; y = read; c = " + safe + "; "
		wantAcross(t, heads+"return"+acrossTail, "c")
		wantAcross(t, heads+"print x; return"+acrossTail, "c x")
		wantAcross(t, heads+"z = add x x; w = add z y; print w; return"+acrossTail, "c x y")
		wantAcross(t, heads+"panic y"+acrossTail, "c y")
		wantAcross(t, heads+"if x a b; a :; return; b :; return"+acrossTail, "c x")
		wantAcross(t, heads+"jump a y; a p:int :; return"+acrossTail, "c y")
		wantAcross(t, heads+"jump a y x y; a p:int q:int r:int :; print q; return"+acrossTail, "c x y")
		wantAcross(t, heads+"jump a; a :; print y; return"+acrossTail, "c y")
		wantAcross(t, heads+"jump a; a :; jump b; b :; jump d x; d p:int :; print y; return"+acrossTail, "c x y")
		wantAcross(t, heads+"if x a b; a :; print y; return; b :; panic k"+acrossTail, "c k x y")
		wantAcross(t, heads+"zerocheck y; jump a x; a p:int :; print k; return"+acrossTail, "c k x y")
	}
	wantAcross(t, "struct; fn f k:int x:int > int; c = new 0; return x; fn main; return", "c x")
}

// TestNotAcrossItself: what is made there is not needed across, though it is behind.
func TestNotAcrossItself(t *testing.T) {
	for safe, use := range map[string]string{"new 0": "nilcheck c", "make []int k": "n = len c", "call one k": "print c"} {
		heads := "struct; fn main; k = int 1; x = read; c = " + safe + "; "
		wantAcross(t, heads+use+"; return"+acrossTail, "c")
		wantAcross(t, heads+use+"; print x; return"+acrossTail, "c x")
		wantAcross(t, heads+"jump a; a :; "+use+"; return"+acrossTail, "c")
		wantAcross(t, heads+"jump a; a :; "+use+"; panic x"+acrossTail, "c x")
		wantLive(t, heads+"jump a; a :; "+use+"; return"+acrossTail, "begin > c", "a c >")
	}
	wantAcross(t, "struct; fn main; k = int 1; c = call one k; panic c"+acrossTail, "c")
	wantAcross(t, "struct; fn main; k = int 1; c = call one k; jump a c; a p:int :; return"+acrossTail, "c")
	// In a loop it is made anew: not alive round it either.
	wantAcross(t, "struct; fn main; x = read; jump h; h :; c = new 0; nilcheck c; if x h o; o :; nilcheck c; return", "c x")
}

// TestUsedByItself: what only it uses is not needed behind it; what it uses and is used behind is.
func TestUsedByItself(t *testing.T) {
	heads := "struct; fn main; x = read; y = read; "
	for _, safe := range []string{"make []int x", "call one x", "call two x x"} {
		wantAcross(t, heads+"c = "+safe+"; return"+acrossTail, "c")
		wantAcross(t, heads+"c = "+safe+"; print y; return"+acrossTail, "c y")
		wantAcross(t, heads+"c = "+safe+"; print x; return"+acrossTail, "c x")
		wantAcross(t, heads+"c = "+safe+"; panic x"+acrossTail, "c x")
		wantAcross(t, heads+"c = "+safe+"; jump a x; a p:int :; return"+acrossTail, "c x")
		wantAcross(t, heads+"c = "+safe+"; jump a; a :; print x; print y; return"+acrossTail, "c x y")
	}
	wantAcross(t, heads+"c = call two x y; print y; return"+acrossTail, "c y")
	// Used by itself alone, but in the next turn of a loop once more.
	wantAcross(t, "struct; fn main; x = read; jump h; h :; c = make []int x; jump h", "c x")
	wantAcross(t, "struct; fn main; x = read; jump h x; h p:int :; c = make []int p; q = len c; jump h q", "c")
	wantAcross(t, "struct; fn main; x = read; jump h x; h p:int :; c = make []int p; jump h p", "c p")
}

// TestMadeBehindASafePlace: it is not there yet, though it is needed behind.
func TestMadeBehindASafePlace(t *testing.T) {
	heads := "struct; fn main; x = read; c = new 0; y = read; "
	wantAcross(t, heads+"print y; return", "c")
	wantAcross(t, heads+"panic y", "c")
	wantAcross(t, heads+"jump a y; a p:int :; print p; return", "c")
	wantAcross(t, heads+"jump a; a :; print y; return", "c")
	wantAcross(t, heads+"z = add x y; jump a; a :; print z; return", "c x")
	wantAcross(t, "struct; fn main; x = read; jump h; h :; c = new 0; y = read; if y b o; b :; print y; jump h; o :; print x; return", "c x")
}

// TestSafePlacesBehindEachOther: each has its own list; one is needed across the next one.
func TestSafePlacesBehindEachOther(t *testing.T) {
	wantAcross(t, "struct; fn main; c = new 0; d = new 0; s = same c d; return", "c", "d c")
	wantAcross(t, "struct; fn main; x = read; c = new 0; d = new 0; e = new 0; nilcheck d; print x; return", "c x", "d x", "e x d")
	wantAcross(t, "struct; fn main; x = read; c = call one x; d = call two x c; e = make []int d; n = len e; return"+acrossTail, "c x", "d", "e")
	wantAcross(t, "struct; fn main; x = read; y = read; c = call one x; d = call one y; e = add c d; panic e"+acrossTail, "c y", "d c")
	wantAcross(t, "struct; fn main; x = read; c = call none; print x; d = call none; y = read; e = call none; print y; return"+acrossTail, "c x", "d", "e y")
	// In two blocks, and round a loop.
	wantAcross(t, "struct; fn main; x = read; c = new 0; jump a; a :; d = new 0; nilcheck c; jump b x; b p:int :; e = new 0; print p; nilcheck d; return", "c x", "d x c", "e d p")
	wantAcross(t, "struct; fn main; x = read; c = new 0; jump h c; h p:*0 :; d = new 0; nilcheck p; n = read; if n b o; b :; e = call none; jump h d; o :; print x; return"+acrossTail,
		"c x", "d x p", "e x d")
}

// TestSafePlacesNobodyUses: what is told of them hangs on what lies behind alone.
func TestSafePlacesNobodyUses(t *testing.T) {
	wantAcross(t, "struct; fn main; c = new 0; d = call none; k = int 1; e = make []int k; f = call one k; return"+acrossTail, "c", "d", "e k", "f")
	wantAcross(t, "struct; fn main; x = read; c = call none; print x; return"+acrossTail, "c x")
	wantAcross(t, "struct; fn main; x = read; c = call main; print x; return", "c x")
	wantAcross(t, "struct; fn main; x = read; jump a; a :; c = call none; return; fn none; return", "c")
	wantAcross(t, "struct; fn main; x = read; if x a b; a :; c = call none; return; b :; d = new 0; print x; return; fn none; return", "c", "d x")
}

// TestParametersAcross: those of the block, of block 0, and those that an edge brings for them.
func TestParametersAcross(t *testing.T) {
	tail := "; fn main; return"
	wantAcross(t, "struct; fn f a:int b:*0 c:[]int; s = new 0; nilcheck b; jump x; x :; n = len c; print n; return"+tail, "s b c")
	wantAcross(t, "struct; fn f a:int b:*0; jump x a b; x p:int q:*0 :; s = new 0; jump y q; y r:*0 :; u = new 0; nilcheck r; return"+tail, "s q", "u r")
	wantAcross(t, "struct; fn f a:*0 > *0; jump h a; h p:*0 :; s = new 0; n = read; if n b o; b :; jump h s; o :; return p"+tail, "s p")
	wantAcross(t, "struct; fn f a:*0 b:*0; jump h a b; h p:*0 q:*0 :; s = new 0; jump h q s"+tail, "s q")
}

// TestOtherOpsAreNoSafePlaces: nothing is told of them, whatever is needed behind.
func TestOtherOpsAreNoSafePlaces(t *testing.T) {
	for _, op := range []string{"int 7", "float 1", "nil *0", "add i j", "fadd x y", "same p q", "toint x", "tofloat i", "len l", "nilcheck p", "indexcheck l i", "zerocheck i", "makecheck i", "load 0 p", "store 0 p i", "get l i", "put l i j", "read", "print i"} {
		text := "struct int; fn f i:int x:float p:*0 l:[]int; q = nil *0; j = int 3; y = float 2; v = " + op + "; print i; print j; print x; print y; nilcheck p; nilcheck q; n = len l; return; fn main; return"
		wantAcross(t, text)
		wantAcross(t, "struct int; fn f i:int x:float p:*0 l:[]int; q = nil *0; j = int 3; y = float 2; v = "+op+"; jump a; a :; print i; print x; nilcheck p; n = len l; return; fn main; return")
	}
}

// TestAcrossOfEachFunction: each is looked at by itself, main or not.
func TestAcrossOfEachFunction(t *testing.T) {
	u := unitOf("struct; fn f a:int > int; c = call g; return a; fn main; x = read; y = call f x; print x; print y; return; fn g; return")
	for n, want := range []string{"[[] [0]]", "[[] [0] [] []]", "[]"} {
		if got := fmt.Sprint(across(t, u, n)); got != want {
			t.Errorf("%d: %s, want %s", n, got, want)
		}
	}
	if u.Main != 1 || impl.Across(u, 3) != nil {
		t.Error("there are three functions")
	}
}
