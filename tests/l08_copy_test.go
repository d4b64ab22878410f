package tests

import (
	"fmt"
	"strings"
	"testing"
)

func TestCopiesByOneEdge(t *testing.T) {
	wantTrimmed(t, "c", "fn main; x = read; jump a x; a p:int :; print p; return",
		"b0; 0:int = read; jump b1",
		"b1; 1 = print 0; return")
	// Of each type.
	wantTrimmed(t, "c", "struct int; fn f a:float b:*0 c:[]int d:[]*0; jump m a b c d; m p:float q:*0 r:[]int s:[]*0 :; print p; nilcheck q; n = len r; k = len s; return; fn main; return",
		"b0 0:float 1:*0 2:[]int 3:[]*0; jump b1",
		"b1; 4 = fprint 0; 5 = nilcheck 1; 6:int = len 2; 7:int = len 3; return")
	// One that nobody uses.
	wantTrimmed(t, "c", "fn main; x = read; jump a x; a p:int :; return",
		"b0; 0:int = read; jump b1",
		"b1; return")
}

func TestCopiesBySeveralEdges(t *testing.T) {
	wantTrimmed(t, "c", "fn main; x = read; if x a b; a :; jump c x; b :; jump c x; c p:int :; print p; return",
		"b0; 0:int = read; if 0 b1 b2",
		"b1; jump b3",
		"b2; jump b3",
		"b3; 1 = print 0; return")
	wantTrimmed(t, "c", "fn main; x = read; if x a b; a :; y = read; if y d e; b :; jump c x; c p:int :; print p; return; d :; jump c x; e :; jump c x",
		"b0; 0:int = read; if 0 b1 b2",
		"b1; 1:int = read; if 1 b4 b5",
		"b2; jump b3",
		"b3; 2 = print 0; return",
		"b4; jump b3",
		"b5; jump b3")
	// Two values are two, though they are alike.
	wantUntrimmed(t, "c", "fn main; x = read; if x a b; a :; y = int 1; jump c y; b :; z = int 1; jump c z; c p:int :; print p; return")
	wantUntrimmed(t, "c", "fn main; x = int 1; y = int 1; if x a b; a :; jump c x; b :; jump c y; c p:int :; print p; return")
	// The third edge brings another one.
	wantUntrimmed(t, "c", "fn main; x = read; w = read; if x a b; a :; y = read; if y d e; b :; jump c x; c p:int :; print p; return; d :; jump c x; e :; jump c w")
	wantUntrimmed(t, "c", "fn main; x = read; w = read; if x a b; a :; y = read; if y d e; b :; jump c w; c p:int :; print p; return; d :; jump c x; e :; jump c x")
}

// TestCopiesOfThemselves: a parameter that a loop brings back as it is.
func TestCopiesOfThemselves(t *testing.T) {
	wantTrimmed(t, "c", "fn main; x = read; jump h x; h p:int :; print p; r = read; if r b o; b :; jump h p; o :; print p; return",
		"b0; 0:int = read; jump b1",
		"b1; 1 = print 0; 2:int = read; if 2 b2 b3",
		"b2; jump b1",
		"b3; 3 = print 0; return")
	// By several edges, the first of which is the loop's; the block ahead has the greatest number.
	wantTrimmed(t, "c", "fn main; jump c; h p:int :; print p; r = read; if r a o; a :; s = read; if s b d; b :; jump h p; d :; jump h p; o :; return; c :; x = read; jump h x",
		"b0; jump b6",
		"b1; 0 = print 3; 1:int = read; if 1 b2 b5",
		"b2; 2:int = read; if 2 b3 b4",
		"b3; jump b1",
		"b4; jump b1",
		"b5; return",
		"b6; 3:int = read; jump b1")
	// Its own block's edge.
	wantTrimmed(t, "c", "fn main; x = read; jump h x; h p:int :; print p; jump h p",
		"b0; 0:int = read; jump b1",
		"b1; 1 = print 0; jump b1")
	// What is set in the loop stays, beside what is not.
	wantTrimmed(t, "c", "fn main; x = read; z = int 0; jump h x z; h p:int q:int :; print q; r = add p q; if r b o; b :; jump h p r; o :; return",
		"b0; 0:int = read; 1:int = int 0; jump b1 1",
		"b1 2:int; 3 = print 2; 4:int = add 0 2; if 4 b2 b3",
		"b2; jump b1 4",
		"b3; return")
	// Two that change places stay, even if both are one value.
	wantUntrimmed(t, "c", "fn main; x = read; jump h x x; h p:int q:int :; print p; jump h q p")
	wantUntrimmed(t, "c", "fn main; x = read; y = read; jump h x y; h p:int q:int :; print p; jump h q p")
}

// TestCopiesOfCopies: what comes is a parameter that goes itself, in the same round, ahead or behind.
func TestCopiesOfCopies(t *testing.T) {
	wantTrimmed(t, "c", "fn main; x = read; jump a x; a p:int :; jump b p; b q:int :; jump c q; c r:int :; print r; return",
		"b0; 0:int = read; jump b1",
		"b1; jump b2",
		"b2; jump b3",
		"b3; 1 = print 0; return")
	wantTrimmed(t, "c", "fn main; x = read; jump c x; a r:int :; print r; return; b q:int :; jump a q; c p:int :; jump b p",
		"b0; 0:int = read; jump b3",
		"b1; 1 = print 0; return",
		"b2; jump b1",
		"b3; jump b2")
	// In one block, both ways round.
	wantTrimmed(t, "c", "fn main; x = read; jump h x x; h p:int q:int :; r = read; if r b o; b :; jump h p p; o :; print q; return",
		"b0; 0:int = read; jump b1",
		"b1; 1:int = read; if 1 b2 b3",
		"b2; jump b1",
		"b3; 2 = print 0; return")
	wantTrimmed(t, "c", "fn main; x = read; jump h x x; h p:int q:int :; r = read; if r b o; b :; jump h q q; o :; print p; return",
		"b0; 0:int = read; jump b1",
		"b1; 1:int = read; if 1 b2 b3",
		"b2; jump b1",
		"b3; 2 = print 0; return")
}

// TestCopiesInAnotherRound: two values come that are one when another parameter is gone.
func TestCopiesInAnotherRound(t *testing.T) {
	wantTrimmed(t, "c", "fn main; x = read; if x b c; a q:int :; print q; return; b :; jump a x; c :; jump d x; d p:int :; jump a p",
		"b0; 0:int = read; if 0 b2 b3",
		"b1; 1 = print 0; return",
		"b2; jump b1",
		"b3; jump b4",
		"b4; jump b1")
	// A loop within a loop: the inner one brings the outer one's back.
	wantTrimmed(t, "c", "fn main; x = read; jump h x; h p:int :; r = read; if r i o; i :; jump j p; j q:int :; s = read; if s k l; k :; print q; jump j q; l :; jump h q; o :; print p; return",
		"b0; 0:int = read; jump b1",
		"b1; 1:int = read; if 1 b2 b6",
		"b2; jump b3",
		"b3; 2:int = read; if 2 b4 b5",
		"b4; 3 = print 0; jump b3",
		"b5; jump b1",
		"b6; 4 = print 0; return")
}

// TestLongChainsOfCopies: each round lets one parameter go, which kept the one whose block comes ahead of its own.
func TestLongChainsOfCopies(t *testing.T) {
	const count = 60
	var ways, choices strings.Builder
	for n := range count {
		if n == 0 {
			ways.WriteString("; m0 p0:int :; print p0; return")
		} else {
			fmt.Fprintf(&ways, "; m%d p%d:int :; jump m%d p%d", n, n, n-1, n)
		}
		if n == count-1 {
			fmt.Fprintf(&choices, "; c%d :; jump m%d x", n, n)
		} else {
			fmt.Fprintf(&choices, "; c%d :; r%d = read; if r%d s%d c%d; s%d :; jump m%d x", n, n, n, n, n+1, n, n)
		}
	}
	u := unitOf("fn main; x = read; jump c0" + ways.String() + choices.String())
	f := optimized(t, u, "c").Fns[0]
	if len(f.Vals) != len(u.Fns[0].Vals)-count || len(f.Blocks) != len(u.Fns[0].Blocks) {
		t.Errorf("%d values left of %d", len(f.Vals), len(u.Fns[0].Vals))
	}
	if got := blocksText(f); !strings.HasPrefix(got, "b0; 0:int = read; jump b61\nb1; 1 = print 0; return\nb2; jump b1\n") {
		t.Error(got)
	}
}

func TestCopiesOfBlock0(t *testing.T) {
	wantUntrimmed(t, "c", "fn f a:int b:int > int; return a; fn main; x = int 1; y = call f x x; print y; return")
	wantTrimmed(t, "c", "fn f a:int b:int > int; jump m b a; m p:int q:int :; s = sub p q; return s; fn main; x = int 1; y = call f x x; print y; return",
		"b0 0:int 1:int; jump b1",
		"b1; 2:int = sub 1 0; return 2")
}

// TestSomeCopiesOfABlock: the Args of edges keep their order.
func TestSomeCopiesOfABlock(t *testing.T) {
	heads := "fn f a:int b:int c:int d:int > int; if a x y; x :; jump m "
	for _, x := range [][2]string{
		{"a b c d", "a b c d"}, {"a b c d", "b b c d"}, {"a b c d", "a c c d"}, {"a b c d", "a b d d"}, {"a b c d", "a b c a"},
		{"a b c d", "b b d d"}, {"a b c d", "a c c a"}, {"d c b a", "a c b d"}, {"a a b b", "a b b a"}, {"a b c d", "b c d a"},
	} {
		text := heads + x[0] + "; y :; jump m " + x[1] + "; m p:int q:int r:int s:int :; t = add p q; u = mul r s; v = sub t u; return v; fn main; return"
		names, firsts, seconds := strings.Fields("p q r s"), strings.Fields(x[0]), strings.Fields(x[1])
		stands := map[string]int{}
		var first, second, params string
		next := 4
		for n := range 4 {
			if firsts[n] == seconds[n] {
				stands[names[n]] = strings.Index("abcd", firsts[n])
				continue
			}
			first += fmt.Sprint(" ", strings.Index("abcd", firsts[n]))
			second += fmt.Sprint(" ", strings.Index("abcd", seconds[n]))
			params += fmt.Sprintf(" %d:int", next)
			stands[names[n]] = next
			next++
		}
		wantTrimmed(t, "c", text,
			"b0 0:int 1:int 2:int 3:int; if 0 b1 b2",
			"b1; jump b3"+first,
			"b2; jump b3"+second,
			fmt.Sprintf("b3%s; %d:int = add %d %d; %d:int = mul %d %d; %d:int = sub %d %d; return %d", params,
				next, stands["p"], stands["q"], next+1, stands["r"], stands["s"], next+2, next, next+1, next+2))
	}
}

// TestUsesOfCopies: as Args of values of all ops, of each end of a block, of edges.
func TestUsesOfCopies(t *testing.T) {
	wantTrimmed(t, "c", "struct int; fn f a:int b:*0 c:[]int d:float > int; jump m a b c d; m i:int p:*0 l:[]int x:float :; add i i; fadd x x; same p p; toint x; tofloat i; len l; make []int i; nilcheck p; indexcheck l i; zerocheck i; makecheck i; load 0 p; store 0 p i; get l i; put l i i; print i; call f i p l x; return i; fn main; return",
		"b0 0:int 1:*0 2:[]int 3:float; jump b1",
		"b1; 4:int = add 0 0; 5:float = fadd 3 3; 6:int = same 1 1; 7:int = toint 3; 8:float = tofloat 0; 9:int = len 2; 10:[]int = make 0; 11 = nilcheck 1; 12 = indexcheck 2 0; 13 = zerocheck 0; 14 = makecheck 0; 15:int = load 0 1; 16 = store 0 1 0; 17:int = get 2 0; 18 = put 2 0 0; 19 = print 0; 20:int = call 0 0 1 2 3; return 0")
	wantTrimmed(t, "c", "fn main; x = read; jump a x; a p:int :; if p b c; b :; y = read; jump d p y; c :; z = read; jump d p z; d q:int r:int :; s = add q r; panic q",
		"b0; 0:int = read; jump b1",
		"b1; if 0 b2 b3",
		"b2; 1:int = read; jump b4 1",
		"b3; 2:int = read; jump b4 2",
		"b4 3:int; 4:int = add 0 3; panic 0")
}
