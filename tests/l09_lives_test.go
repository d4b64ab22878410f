package tests

import (
	"fmt"
	"testing"

	"loop.example/g00306/impl"
)

// TestNothingAlive: a list for each block is there, though it is empty.
func TestNothingAlive(t *testing.T) {
	wantLive(t, "fn main; return", "begin >")
	wantLive(t, "fn main; x = read; return", "begin >")
	wantLive(t, "fn main; jump a; a :; jump b; b :; return", "begin >", "a >", "b >")
	wantLive(t, "fn main; jump a; a :; jump a", "begin >", "a >")
	wantLive(t, "fn main; x = read; if x a b; a :; return; b :; return", "begin >", "a >", "b >")
	wantLive(t, "fn f p:int q:float; x = int 1; jump a; a :; y = int 2; return; fn main; return", "begin >", "a >")
}

// TestMadeAndUsedInOneBlock: by Code, by its Args, by its edge's Args; it is alive nowhere.
func TestMadeAndUsedInOneBlock(t *testing.T) {
	wantLive(t, "fn main; x = read; print x; y = add x x; zerocheck y; return", "begin >")
	wantLive(t, "fn main; x = read; panic x", "begin >")
	wantLive(t, "fn f > int; x = read; return x; fn main; return", "begin >")
	wantLive(t, "fn main; x = read; jump a x; a p:int :; return", "begin >", "a >")
	wantLive(t, "fn main; x = read; jump a; a :; y = read; print y; if y b c; b :; return; c :; return", "begin >", "a >", "b >", "c >")
	wantLive(t, "fn main; jump a; a :; y = read; jump b y y; b p:int q:int :; print p; print q; return", "begin >", "a >", "b >")
}

// TestUsedInALaterBlock: only by its Code, only by its Args, only by the Args of its edge, and on all the way there.
func TestUsedInALaterBlock(t *testing.T) {
	wantLive(t, "fn main; x = read; jump a; a :; print x; return", "begin > x", "a x >")
	wantLive(t, "fn main; x = read; jump a; a :; panic x", "begin > x", "a x >")
	wantLive(t, "fn f > float; x = float 1; jump a; a :; return x; fn main; return", "begin > x", "a x >")
	wantLive(t, "fn main; x = read; jump a; a :; if x b c; b :; return; c :; return", "begin > x", "a x >", "b >", "c >")
	wantLive(t, "fn main; x = read; jump a; a :; jump b x; b p:int :; return", "begin > x", "a x >", "b >")
	far := "fn main; x = read; y = read; jump a; a :; print y; jump b; b :; jump c; c :; jump d; d :; "
	for _, use := range []string{"print x; return", "panic x", "zerocheck x; y2 = add x x; return"} {
		wantLive(t, far+use, "begin > x y", "a x y > x", "b x > x", "c x > x", "d x >")
	}
	wantLive(t, far+"jump e x; e p:int :; return", "begin > x y", "a x y > x", "b x > x", "c x > x", "d x >", "e >")
	wantLive(t, far+"if x e f; e :; return; f :; return", "begin > x y", "a x y > x", "b x > x", "c x > x", "d x >", "e >", "f >")
	// By all three.
	wantLive(t, "fn main; x = read; jump a; a :; print x; if x b c; b :; jump d x; c :; jump d x; d p:int :; print p; print x; return",
		"begin > x", "a x > x", "b x > x", "c x > x", "d x >")
}

// TestUsedSeveralTimes: it is told once.
func TestUsedSeveralTimes(t *testing.T) {
	wantLive(t, "fn main; x = read; jump a; a :; y = add x x; print x; z = mul x y; print z; panic x", "begin > x", "a x >")
	// Twice in one edge; by edges of several blocks.
	wantLive(t, "fn main; x = read; jump a; a :; jump b x x; b p:int q:int :; print p; print q; return", "begin > x", "a x >", "b >")
	wantLive(t, "fn main; x = read; if x a b; a :; jump c x x; b :; jump c x x; c p:int q:int :; r = sub p q; panic r", "begin > x", "a x >", "b x >", "c >")
	wantLive(t, "fn main; x = read; y = read; if x a b; a :; print y; jump c x y; b :; jump c y x; c p:int q:int :; r = sub p q; s = add x r; panic s",
		"begin > x y", "a x y > x", "b x y > x", "c x >")
	// In Out of a block by both of its edges.
	wantLive(t, "fn main; x = read; y = read; z = read; if x a b; a :; print x; print y; return; b :; print z; print y; return", "begin > x y z", "a x y >", "b y z >")
	// Made by the block, used by it, and needed behind it; and used behind it alone.
	wantLive(t, "fn main; jump a; a :; x = read; y = read; print x; print x; if x b c; b :; print x; return; c :; panic y", "begin >", "a > x y", "b x >", "c y >")
}

// TestParametersAlive: one that is used in its own block, only in a later one, in both, by nobody.
func TestParametersAlive(t *testing.T) {
	heads := "fn main; x = read; jump a x x x; a p:int q:int r:int :; "
	wantLive(t, heads+"print p; s = add q r; panic s", "begin >", "a >")
	wantLive(t, heads+"jump b; b :; print q; return", "begin >", "a > q", "b q >")
	wantLive(t, heads+"print q; jump b; b :; print q; jump c; c :; print r; return", "begin >", "a > q r", "b q r > r", "c r >")
	wantLive(t, heads+"jump b; b :; jump c; c :; return", "begin >", "a >", "b >", "c >")
	wantLive(t, heads+"jump b r q; b u:int v:int :; print u; print v; return", "begin >", "a >", "b >")
	wantLive(t, heads+"jump b r q; b u:int v:int :; print p; print v; jump c; c :; panic u", "begin >", "a > p", "b p > u", "c u >")
	// What is brought for it is used by the edge alone, whether or not anybody uses the parameter.
	wantLive(t, "fn main; x = read; jump a; a :; jump b x; b p:int :; jump c p; c q:int :; return", "begin > x", "a x >", "b >", "c >")
	// Beside what is brought, the value itself is used, too.
	wantLive(t, "fn main; x = read; jump a x; a p:int :; y = add p x; print y; return", "begin > x", "a x >")
}

// TestParametersOfBlock0: they are made there, so nothing is alive ahead of it.
func TestParametersOfBlock0(t *testing.T) {
	tail := "; fn main; return"
	wantLive(t, "fn f a:int b:int > int; c = add a b; return c"+tail, "begin >")
	wantLive(t, "fn f a:int b:float > int; jump x; x :; print b; return a"+tail, "begin > a b", "x a b >")
	wantLive(t, "struct int; fn f a:*0 b:[]int c:int d:float; if c x y; x :; nilcheck a; return; y :; n = len b; print n; print d; return"+tail,
		"begin > a b d", "x a >", "y b d >")
	wantLive(t, "fn f a:int b:int; jump h; h :; c = less a b; if c h o; o :; return"+tail, "begin > a b", "h a b > a b", "o >")
	wantLive(t, "fn f a:int b:int; jump h a; h p:int :; jump h b"+tail, "begin > b", "h b > b")
}

// TestAliveInOneOfBothWays: where one of two ways needs it, it is alive ahead of both, but not in the other one.
func TestAliveInOneOfBothWays(t *testing.T) {
	wantLive(t, "fn main; c = read; x = read; if c a b; a :; print x; jump d; b :; jump d; d :; return", "begin > x", "a x >", "b >", "d >")
	wantLive(t, "fn main; c = read; x = read; if c a b; a :; jump d; b :; print x; jump d; d :; return", "begin > x", "a >", "b x >", "d >")
	wantLive(t, "fn main; c = read; x = read; if c a b; a :; jump d; b :; jump d; d :; print x; return", "begin > x", "a x > x", "b x > x", "d x >")
	// One way never comes to where it is used: it panics, returns, or goes round for ever.
	for _, end := range []string{"z = read; panic z", "return", "jump b"} {
		wantLive(t, "fn main; c = read; x = read; if c a b; a :; jump d; b :; "+end+"; d :; print x; return", "begin > x", "a x > x", "b >", "d x >")
	}
	// Ways that part again.
	wantLive(t, "fn main; c = read; x = read; y = read; if c a b; a :; d = read; if d e g; e :; print x; jump h; g :; print y; jump h; b :; print c; jump h; h :; return",
		"begin > c x y", "a x y > x y", "e x >", "g y >", "b c >", "h >")
}

// TestLoopsAlive: made ahead of a loop and used in it, behind it, only in its test, nowhere.
func TestLoopsAlive(t *testing.T) {
	heads := "fn main; x = read; y = read; jump h; h :; "
	wantLive(t, heads+"c = read; if c b o; b :; print x; jump h; o :; return", "begin > x", "h x > x", "b x > x", "o >")
	wantLive(t, heads+"c = read; if c b o; b :; jump h; o :; print x; return", "begin > x", "h x > x", "b x > x", "o x >")
	wantLive(t, heads+"if x b o; b :; jump h; o :; return", "begin > x", "h x > x", "b x > x", "o >")
	wantLive(t, heads+"c = less x y; if c b o; b :; jump h; o :; print y; return", "begin > x y", "h x y > x y", "b x y > x y", "o y >")
	wantLive(t, heads+"c = read; if c b o; b :; jump h; o :; return", "begin >", "h >", "b >", "o >")
	// Used in the loop's first turn alone, as far as anybody can see: it stays alive all round.
	wantLive(t, heads+"print x; jump b; b :; print y; jump h", "begin > x y", "h x y > x y", "b x y > x y")
	// Made in the loop's head: used in its body and behind it, in the next turn made anew.
	wantLive(t, "fn main; jump h; h :; c = read; d = read; if c b o; b :; print d; jump h; o :; print c; return", "begin >", "h > c d", "b d >", "o c >")
	// Made in the body: not behind it, not in the next turn.
	wantLive(t, "fn main; jump h; h :; c = read; if c b o; b :; e = read; jump d; d :; print e; jump h; o :; return", "begin >", "h >", "b > e", "d e >", "o >")
	// A block that leads to itself.
	wantLive(t, "fn main; x = read; jump a; a :; y = read; print x; if y a o; o :; print y; return", "begin > x", "a x > x y", "o y >")
	// Without an end.
	wantLive(t, "fn main; x = read; y = read; jump a; a :; print x; jump a", "begin > x", "a x > x")
}

// TestRoundALoop: what an edge brings for a parameter of its own block, and a parameter that is brought to itself.
func TestRoundALoop(t *testing.T) {
	wantLive(t, "fn main; x = read; jump a x; a p:int :; jump a p", "begin >", "a >")
	wantLive(t, "fn main; x = read; y = read; jump a x y; a p:int q:int :; jump a q p", "begin >", "a >")
	wantLive(t, "fn main; x = read; jump a x; a p:int :; jump a x", "begin > x", "a x > x")
	wantLive(t, "fn main; x = read; jump a x; a p:int :; y = add p p; jump a y", "begin >", "a >")
	wantLive(t, "fn main; x = read; jump a x; a p:int :; y = add p x; jump a y", "begin > x", "a x > x")
	// By way of a block more: it is alive on the way, and not when the loop begins anew.
	wantLive(t, "fn main; x = read; jump h x; h p:int :; c = read; if c b o; b :; jump h p; o :; return", "begin >", "h > p", "b p >", "o >")
	wantLive(t, "fn main; x = read; jump h x; h p:int :; c = read; if c b o; b :; q = sub p c; jump h q; o :; print p; return", "begin >", "h > p c", "b p c >", "o p >")
	wantLive(t, "fn main; x = read; y = read; jump h x y; h p:int q:int :; if p b o; b :; jump h q p; o :; return", "begin >", "h > p q", "b p q >", "o >")
}

// TestAliveInLoopsWithinLoops: what the outer one needs is alive all through the inner one.
func TestAliveInLoopsWithinLoops(t *testing.T) {
	wantLive(t, "fn main; x = read; y = read; z = read; jump h; h :; c = read; if c i o; i :; d = read; if d b e; b :; print y; jump i; e :; print x; jump h; o :; print z; return",
		"begin > x y z", "h x y z > x y z", "i x y z > x y z", "b x y z > x y z", "e x y z > x y z", "o z >")
	// The outer loop's parameter in the inner one; the inner one's behind it.
	wantLive(t, "fn main; x = read; jump h x; h p:int :; if p i o; i :; jump k p; k q:int :; if q b e; b :; r = sub q p; jump k r; e :; s = add p q; jump h s; o :; print p; return",
		"begin >", "h > p", "i p > p", "k p > p q", "b p q > p", "e p q >", "o p >")
	// Three, with what only the first, the second, the third one asks for.
	wantLive(t, "fn main; x = read; y = read; z = read; jump h; h :; if x i o; i :; if y j h2; h2 :; jump h; j :; if z k i2; i2 :; jump i; k :; jump j; o :; return",
		"begin > x y z", "h x y z > x y z", "i x y z > x y z", "h2 x y z > x y z", "j x y z > x y z", "i2 x y z > x y z", "k x y z > x y z", "o >")
	// The inner one has no way back to the outer one's need.
	wantLive(t, "fn main; x = read; jump h; h :; print x; c = read; if c h i; i :; d = read; if d i o; o :; return", "begin > x", "h x > x", "i >", "o >")
	// A loop with two ways in.
	wantLive(t, "fn main; x = read; y = read; if x a b; a :; print x; jump b; b :; print y; jump a", "begin > x y", "a x y > x y", "b x y > x y")
}

// TestBlocksInNoOrder: the function does not run by the numbers of its blocks, up or down, so that neither order tells all
// with one look.
func TestBlocksInNoOrder(t *testing.T) {
	wantLive(t, "fn main; x = read; jump c; a :; print x; return; b :; jump a; c :; jump b", "begin > x", "a x >", "b x > x", "c x > x")
	wantLive(t, "fn main; jump c; a :; print x; print y; return; b :; y = add x x; jump a; c :; x = read; jump b", "begin >", "a y x >", "b x > y x", "c > x")
	wantLive(t, "fn main; x = read; jump c; a :; jump d; b :; jump e; c :; jump b; d :; print x; return; e :; jump a",
		"begin > x", "a x > x", "b x > x", "c x > x", "d x >", "e x > x")
	// Round a loop, whose use lies behind where it is begun, in both senses.
	wantLive(t, "fn main; x = read; jump c; a :; print x; jump e; b :; jump a; c :; n = read; if n d o; d :; jump b; e :; jump c; o :; return",
		"begin > x", "a x > x", "b x > x", "c x > x", "d x > x", "e x > x", "o >")
	// Two values that come by two loops, each against the other one's order.
	wantLive(t, "fn main; x = read; y = read; jump b; a :; print x; jump c; b :; n = read; if n a d; c :; jump b; d :; m = read; if m g o; e :; print y; jump f; f :; jump d; g :; jump e; o :; return",
		"begin > x y", "a x y > x y", "b x y > x y", "c x y > x y", "d y > y", "e y > y", "f y > y", "g y > y", "o >")
}

// TestValuesInNoOrder: the lists ascend by numbers, not as the values are made.
func TestValuesInNoOrder(t *testing.T) {
	num := tyInt()
	u := impl.Unit{Fns: []impl.Fn{{
		Params: []impl.Ty{num},
		Vals: []impl.Val{
			{Op: impl.VaArith, Ty: num, Args: []int{4, 2}},
			{Op: impl.VaPrint, Args: []int{0}},
			{Op: impl.VaRead, Ty: num},
			{Ty: num},
			{Ty: num},
			{Op: impl.VaInt, Ty: num},
		},
		Blocks: []impl.Block{
			{Params: []int{4}, Code: []int{5, 2}, Out: []impl.Edge{{To: 2, Args: []int{5}}}},
			{Code: []int{0, 1}, Term: impl.TmPanic, Args: []int{3}},
			{Params: []int{3}, Out: []impl.Edge{{To: 1}}},
		},
	}, {Blocks: []impl.Block{{Term: impl.TmReturn}}}}, Main: 1}
	l, ok := lives(t, u, 0)
	if want := "in [[] [2 3 4] [2 4]] out [[2 4] [] [2 3 4]]"; !ok || liveText(l) != want {
		t.Errorf("%v, %s, want %s", ok, liveText(l), want)
	}
	wantTurnedAlike(t, u)
}

// TestEachFunction: each is looked at by itself, main or not.
func TestEachFunction(t *testing.T) {
	text := "fn f a:int > int; jump x; x :; return a; fn main; x = read; y = call f x; jump b; b :; print y; print x; return; fn g; return"
	u := unitOf(text)
	for n, want := range []string{"in [[] [0]] out [[0] []]", "in [[] [0 1]] out [[0 1] []]", "in [[]] out [[]]"} {
		if l, ok := lives(t, u, n); !ok || liveText(l) != want {
			t.Errorf("%d: %v, %s, want %s", n, ok, liveText(l), want)
		}
		wantTurnedAlike(t, u)
	}
	for main := range 2 {
		// Which one is main plays no part.
		other := unitOf("fn f; x = read; jump a; a :; print x; return; fn main; return")
		other.Main = main
		if l, ok := lives(t, other, 0); !ok || liveText(l) != "in [[] [0]] out [[0] []]" {
			t.Errorf("main %d: %v, %s", main, ok, liveText(l))
		}
	}
}

// TestLivesOfSources: the lists of a source's functions, written out.
func TestLivesOfSources(t *testing.T) {
	u := loweredText(t, "func f ( a int ) int { return a ; } func main ( ) { var i int ; var k int ; k = read ; for ( i < k ) { i = ( i + f ( i ) ) ; } print i ; }")
	// 0 i, 1 k, 2 read; 3 the loop's i, 4 less; 5 the call, 6 the sum; 7 the print.
	l, _ := lives(t, u, 1)
	if want := "in [[] [2] [2 3] [3]] out [[2] [2 3] [2] []]"; liveText(l) != want {
		t.Errorf("%s, want %s", liveText(l), want)
	}
	if got := fmt.Sprint(across(t, u, 1)); got != "[[] [] [] [] [] [2 3] [] []]" {
		t.Error(got)
	}
	if got := fmt.Sprint(across(t, u, 0)); got != "[[]]" {
		t.Error(got)
	}
}
