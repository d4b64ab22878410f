package tests

import (
	"fmt"
	"math"
	"slices"
	"testing"

	"loop.example/g00306/impl"
)

// homeTexts are units whose functions have homes of all sorts.
var homeTexts = []string{
	"fn main; x = read; y = read; z = add x y; print z; return",
	"struct int; fn main; x = read; p = new 0; y = load 0 p; store 0 p x; print y; return",
	"fn f a:int b:int > int; jump h a b; h p:int q:int :; c = less p q; if c t o; t :; d = add p a; jump h d q; o :; return b; fn main; k = read; r = call f k k; print r; print k; return",
	"fn main; x = read; y = read; jump c x; a p:int :; print p; print y; return; c q:int :; r = add q x; jump a r",
	"fn main; a = read; b = read; c = read; d = read; e = read; f = read; g = read; h = add a g; print h; print b; print c; print d; print e; panic f",
}

// homeNumbers are all that a home may be, and some that it may not.
func homeNumbers() []int {
	list := []int{math.MinInt, math.MinInt + 1, -1 << 32, math.MaxInt, math.MaxInt - 1, 1 << 32}
	for home := -2; home <= impl.Regs+impl.MaxSlots; home++ {
		list = append(list, home)
	}
	return list
}

// TestOneHomeChanged: to each other number; what may be and what may not is the second way's.
func TestOneHomeChanged(t *testing.T) {
	t.Parallel()
	for _, text := range homeTexts {
		u := unitOf(text)
		for n, f := range u.Fns {
			list, ok := homes(t, u, n)
			if !ok {
				t.Fatalf("refused: %d of %s", n, text)
			}
			second := newLodging(f)
			for v := range list {
				for _, home := range homeNumbers() {
					changed := slices.Clone(list)
					changed[v] = home
					if got, fault := impl.HomesOk(u, n, changed), second.fault(changed); got != (fault == "") {
						t.Fatalf("%v, the second way: %q, of %v of %d of %s", got, fault, changed, n, text)
					}
				}
			}
		}
	}
}

// TestNumbersThatAreNoHomes: below -1, and from the last slot on.
func TestNumbersThatAreNoHomes(t *testing.T) {
	u := unitOf("fn main; x = read; print x; return")
	for _, home := range []int{0, 1, impl.Regs - 1, impl.Regs, impl.Regs + 1, impl.Regs + impl.MaxSlots - 1} {
		if !homesOk(t, u, 0, []int{home, -1}) {
			t.Errorf("%d is refused", home)
		}
		if homesOk(t, u, 0, []int{home, home}) || homesOk(t, u, 0, []int{-1, home}) || homesOk(t, u, 0, []int{home, 0}) {
			t.Errorf("%d of what has no type is taken", home)
		}
	}
	for _, home := range []int{-1, -2, -3, impl.Regs + impl.MaxSlots, impl.Regs + impl.MaxSlots + 1, math.MinInt, math.MaxInt, 1 << 32, -1 << 32} {
		if homesOk(t, u, 0, []int{home, -1}) {
			t.Errorf("%d is taken", home)
		}
		if home != -1 && homesOk(t, u, 0, []int{0, home}) {
			t.Errorf("%d of what has no type is taken", home)
		}
	}
}

// TestHomesForEachValue: neither too few nor too many.
func TestHomesForEachValue(t *testing.T) {
	for _, text := range homeTexts {
		u := unitOf(text)
		for n, f := range u.Fns {
			list, _ := homes(t, u, n)
			for count := range list {
				if homesOk(t, u, n, list[:count]) || homesOk(t, u, n, list[len(list)-count:]) {
					t.Errorf("%d homes for %d values are taken", count, len(list))
				}
			}
			for _, more := range []int{-1, 0, impl.Regs + 300} {
				if homesOk(t, u, n, append(slices.Clone(list), more)) {
					t.Errorf("%d more is taken", more)
				}
			}
			if homesOk(t, u, n, nil) != (len(f.Vals) == 0) || homesOk(t, u, n, []int{}) != (len(f.Vals) == 0) {
				t.Errorf("none for %d values", len(f.Vals))
			}
		}
	}
	empty := unitOf("fn main; jump a; a :; return")
	for _, list := range [][]int{nil, {}} {
		if !homesOk(t, empty, 0, list) {
			t.Error("none for no values is refused")
		}
	}
	if homesOk(t, empty, 0, []int{-1}) || homesOk(t, empty, 0, []int{0}) {
		t.Error("one for no values is taken")
	}
}

// TestNoTypeNoHome: each op that has no type; and none where there is one.
func TestNoTypeNoHome(t *testing.T) {
	heads := "struct int *0; fn main; i = read; x = float 1; p = nil *0; l = nil []int; "
	for _, op := range []string{"nilcheck p", "indexcheck l i", "zerocheck i", "makecheck i", "store 0 p i", "put l i i", "print i", "print x", "call none"} {
		wantHomesOk(t, heads+"v = "+op+"; w = "+op+"; return"+homesTail, true, "", "v -", "v -, w -")
		wantHomesOk(t, heads+"v = "+op+"; w = "+op+"; return"+homesTail, false, "v 0", "v 5, w -", "v s0", "v s399", "w s7", "v -, w 1")
	}
	wantHomesOk(t, heads+"v = call one i; return"+homesTail, true, "v 0", "i 0, v 0", "v s3")
	wantHomesOk(t, heads+"v = call one i; return"+homesTail, false, "v -", "i -", "x -, v 0", "p -", "l -")
	wantHomesOk(t, "fn f a:int b:int; return; fn main; return", false, "a -", "a 0, b -", "a -, b -")
}

// TestSlotsAcross: whatever is in an Across has a slot, the last one that there may be, too.
func TestSlotsAcross(t *testing.T) {
	for _, safe := range []string{"new 0", "make []int k", "call none", "call one k"} {
		text := "struct; fn main; k = int 1; x = read; y = read; zerocheck k; c = " + safe + "; print x; jump a; a :; print x; return" + homesTail
		wantHomesOk(t, text, true, "k 0, x s0, y 1", "k 0, x s399, y 5", "k s1, x s0, y s2")
		wantHomesOk(t, text, false, "k 0, x 1, y 2", "k 0, x 5", "x 0", "x 1", "k s0, x s0", "x s0, y s0", "k 0, x s0, y 0")
		if safe != "call none" {
			// What is made there is needed with it behind, though nobody needs what is made.
			wantHomesOk(t, text, true, "x s0, c s1", "x s0, c 0", "x s0, y 0, c 0", "k 0, x s0, c 0")
			wantHomesOk(t, text, false, "x s0, c s0", "x 0, c 1")
		}
	}
	// What only it uses, what it makes, what is made behind it: registers.
	wantHomesOk(t, "fn main; k = read; v = call one k; w = read; print v; print w; return"+homesTail, true, "k 0, v 0, w 1", "k 5, v 5, w 0", "k s0, v s0, w s1")
	wantHomesOk(t, "fn main; k = read; v = call one k; w = read; print v; print w; return"+homesTail, false, "k 0, v 1, w 1", "v s2, w s2")
	// In an Across of one of two ways alone.
	wantHomesOk(t, "struct; fn main; c = read; x = read; if c a b; a :; p = new 0; print x; return; b :; print x; return", false, "c 0, x 1", "x 0")
	wantHomesOk(t, "struct; fn main; c = read; x = read; if c a b; a :; p = new 0; return; b :; print x; return", true, "c 0, x 1, p 1", "c 0, x 1, p 0")
}

// TestNeededTogether: at a place of Code, ahead of it and behind it.
func TestNeededTogether(t *testing.T) {
	text := "fn main; x = read; y = read; z = add x y; print z; return"
	wantHomesOk(t, text, true, "x 0, y 1, z 2", "x 0, y 1, z 0", "x 0, y 1, z 1", "x s0, y 0, z s0", "x 5, y s399, z 5")
	wantHomesOk(t, text, false, "x 0, y 0, z 1", "x s0, y s0, z 1", "x 5, y 5", "x 0, y 0, z 0")
	// Used further on, the argument is still there.
	text = "fn main; x = read; y = read; z = add x y; w = sub z x; print w; return"
	wantHomesOk(t, text, true, "x 0, y 1, z 1, w 0", "x 0, y 1, z 1, w 1", "x 0, y 1, z 2, w 1")
	wantHomesOk(t, text, false, "x 0, y 1, z 0, w 2", "x 0, y 0", "x 3, z 3")
	// One value twice is no two values.
	wantHomesOk(t, "fn main; x = read; y = add x x; print y; return", true, "x 0, y 0", "x 0, y 1")
	// Three Args, each with each.
	text = "struct; fn f l:[]int; i = read; x = read; put l i x; return; fn main; return"
	wantHomesOk(t, text, true, "l 0, i 1, x 2", "l s0, i s1, x 0")
	wantHomesOk(t, text, false, "l 0, i 0, x 2", "l 0, i 1, x 0", "l 0, i 1, x 1", "l s9, x s9")
	// Between other values.
	text = "fn main; x = read; print x; y = read; print y; z = read; print z; return"
	wantHomesOk(t, text, true, "x 0, y 0, z 0", "x s0, y s0, z s0", "x 0, y 1, z 0")
}

// TestNobodyNeedsIt: a value that nobody uses, with those that are needed behind it.
func TestNobodyNeedsIt(t *testing.T) {
	text := "fn main; x = read; y = read; print x; z = read; return"
	wantHomesOk(t, text, true, "x 0, y 1, z 0", "x 0, y 1, z 1", "x s0, y 0, z s0")
	wantHomesOk(t, text, false, "x 0, y 0, z 1", "x s0, y s0, z 0", "x s0, y s0, z s0")
	wantHomesOk(t, "fn main; x = read; y = read; z = read; return", true, "x 0, y 0, z 0")
	// Needed by the end alone, by Out alone.
	for _, tail := range []string{"panic x", "if x a b; a :; return; b :; return", "jump a x; a p:int :; return", "jump a; a :; print x; return", "jump a; a :; jump b; b :; panic x"} {
		wantHomesOk(t, "fn main; x = read; y = read; "+tail, true, "x 0, y 1", "x s0, y 0")
		wantHomesOk(t, "fn main; x = read; y = read; "+tail, false, "x 0, y 0", "x s3, y s3")
		wantHomesOk(t, "fn main; y = read; x = read; "+tail, true, "x 0, y 0", "x s3, y s3")
	}
	// One that uses what is needed further on, and is itself not used.
	wantHomesOk(t, "fn main; x = read; y = add x x; print x; return", false, "x 0, y 0")
	wantHomesOk(t, "fn main; x = read; y = add x x; return", true, "x 0, y 0")
}

// TestNeededAtABeginning: Params with each other, and with what is in In, whether or not anybody uses them.
func TestNeededAtABeginning(t *testing.T) {
	heads := "fn main; x = read; jump a x x; a p:int q:int :; "
	for _, tail := range []string{"return", "print p; return", "print q; return", "r = add p q; panic r", "jump b q; b r:int :; return"} {
		wantHomesOk(t, heads+tail, true, "p 0, q 1", "x 0, p 0, q 1", "x 0, p 1, q 0", "p s0, q 0")
		wantHomesOk(t, heads+tail, false, "p 0, q 0", "p 5, q 5", "p s1, q s1")
	}
	// With what is in In: used in the block, by its end, in Out.
	for _, tail := range []string{"print x; return", "panic x", "jump b x; b r:int :; return", "jump b; b :; print x; return", "print p; print q; print x; return"} {
		wantHomesOk(t, heads+tail, true, "x 0, p 1, q 2", "x 0, p s1, q s2")
		wantHomesOk(t, heads+tail, false, "x 0, p 0, q 1", "x 0, p 1, q 0", "x s0, p s0", "x s0, q s0")
	}
	// Of block 0.
	wantHomesOk(t, "fn f a:int b:float c:[]int; return; fn main; return", true, "a 0, b 1, c 2", "a s0, b 0, c 1")
	wantHomesOk(t, "fn f a:int b:float c:[]int; return; fn main; return", false, "a 0, b 0, c 2", "a 0, b 1, c 1", "a 0, b 1, c 0", "a s2, c s2")
	wantHomesOk(t, "fn f a:int b:int; x = read; print x; return; fn main; return", true, "a 0, b 1, x 0", "a 0, b 1, x 1")
	// An empty block.
	wantHomesOk(t, "fn main; x = read; jump a x x; a p:int q:int :; jump a q p", false, "p 0, q 0")
	wantHomesOk(t, "fn main; x = read; jump a x x; a p:int q:int :; jump a q p", true, "p 0, q 1, x 0", "p 1, q 0, x 1")
}

// TestNeededAtAnEnd: by its Args, by Args of its edges, in Out; each with each.
func TestNeededAtAnEnd(t *testing.T) {
	wantHomesOk(t, "fn main; x = read; y = read; jump a x y; a p:int q:int :; return", true, "x 0, y 1", "x 0, y 1, p 0, q 1", "x 0, y 1, p 1, q 0")
	wantHomesOk(t, "fn main; x = read; y = read; jump a x y; a p:int q:int :; return", false, "x 0, y 0", "x s0, y s0")
	for _, tail := range []string{"if x a b; a :; print y; return; b :; return", "if x a b; a :; return; b :; jump c y; c p:int :; return", "jump a x; a p:int :; print y; return", "jump a; a :; print x; panic y"} {
		wantHomesOk(t, "fn main; x = read; y = read; "+tail, true, "x 0, y 1", "x s0, y s1")
		wantHomesOk(t, "fn main; x = read; y = read; "+tail, false, "x 0, y 0", "x s0, y s0")
	}
	// In two ways, one each: both are in Out of the block where the ways part.
	text := "fn main; c = read; x = read; y = read; if c a b; a :; print x; return; b :; print y; return"
	wantHomesOk(t, text, true, "c 0, x 1, y 2")
	wantHomesOk(t, text, false, "c 0, x 1, y 1", "c 0, x 0, y 1", "c 1, x 2, y 1")
	// Round a loop.
	text = "fn main; x = read; jump h; h :; print x; y = read; if y h o; o :; return"
	wantHomesOk(t, text, true, "x 0, y 1")
	wantHomesOk(t, text, false, "x 0, y 0")
}

// TestNeverNeededTogether: like homes may be, also where spans overlap, and though Homes tells others.
func TestNeverNeededTogether(t *testing.T) {
	for text, words := range map[string]string{
		// The span of x goes over the block a, in which nobody needs it.
		"fn main; c = read; x = read; if c a b; a :; y = read; print y; return; b :; print x; return": "x 1, y 1",
		// Over a block that ends the way, and lies between by its number alone.
		"fn main; x = read; jump b; a :; y = read; print y; return; b :; print x; jump a": "x 0, y 0",
		// A value's home is one of its own arguments'.
		"fn main; x = read; y = read; z = sub x y; print z; return": "x 0, y 1, z 1",
		// Ahead of where it is made, by its number.
		"fn main; jump c; a :; print x; return; b :; y = read; print y; jump d; c :; n = read; if n b e; d :; return; e :; x = read; jump a": "x 0, y 0",
		// A parameter, and what is brought for it.
		"fn main; x = read; jump h x; h p:int :; y = add p p; jump h y": "x 0, p 0, y 0",
	} {
		a := asmOf(text)
		wantHomesOk(t, text, true, words)
		told, ok := homes(t, a.unit, 0)
		if given := givenHomes(a, words); !ok || slices.Equal(given, told) {
			t.Errorf("%v: %v of %s", ok, told, text)
		}
	}
	// Where both are needed at one place after all, they may not.
	wantHomesOk(t, "fn main; c = read; x = read; if c a b; a :; y = read; print y; jump b; b :; print x; return", false, "x 1, y 1")
}

// TestSlotsUsedTwice: Homes never does so, but HomesOk takes it where nobody needs both.
func TestSlotsUsedTwice(t *testing.T) {
	text := "struct; fn main; x = read; p = new 0; print x; y = read; q = new 0; print y; return"
	wantHomes(t, text, "x s0, p 0, y s1, q 0")
	wantHomesOk(t, text, true, "x s0, p 0, y s0, q 0", "x s0, p s1, y s1, q s0", "x s0, p s1, y s0, q s399")
	wantHomesOk(t, text, false, "x s0, p s0", "y s1, q s1")
}

// TestHomesOfAnotherFunction: homes are held against the function that is named.
func TestHomesOfAnotherFunction(t *testing.T) {
	u := unitOf("fn f; x = read; y = add x x; return; fn main; x = read; y = add x x; print x; return; fn g; x = read; print x; return")
	for _, x := range []struct {
		list []int
		want string
	}{
		{[]int{0, 0}, "[true false false]"}, {[]int{0, 1}, "[true false false]"}, {[]int{0, 1, -1}, "[false true false]"}, {[]int{0, 0, -1}, "[false false false]"}, {[]int{0, -1}, "[false false true]"},
	} {
		var got []bool
		for n := range u.Fns {
			got = append(got, homesOk(t, u, n, x.list))
		}
		if fmt.Sprint(got) != x.want {
			t.Errorf("%v: %v, want %s", x.list, got, x.want)
		}
	}
}
