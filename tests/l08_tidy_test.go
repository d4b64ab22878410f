package tests

import (
	"strings"
	"testing"

	"loop.example/g00306/impl"
)

// turnedNumbers is a unit whose values have their numbers the other way round.
func turnedNumbers(u impl.Unit) impl.Unit {
	u = roomy(u)
	for n := range u.Fns {
		f := &u.Fns[n]
		last := len(f.Vals) - 1
		turn := func(list []int) {
			for i := range list {
				list[i] = last - list[i]
			}
		}
		vals := make([]impl.Val, len(f.Vals))
		for v, val := range f.Vals {
			turn(val.Args)
			vals[last-v] = val
		}
		f.Vals = vals
		for _, b := range f.Blocks {
			turn(b.Params)
			turn(b.Code)
			turn(b.Args)
			for _, e := range b.Out {
				turn(e.Args)
			}
		}
	}
	return u
}

// tidyTexts are units whose values and blocks are numbered as they come.
var tidyTexts = []string{
	"fn main; return",
	"fn main; x = read; y = add x x; print y; return",
	"fn main; x = read; if x a b; a :; y = int 1; jump c y; b :; z = int 2; jump c z; c p:int :; print p; return",
	"fn main; z = int 0; one = int 1; jump h z z; h i:int s:int :; ten = int 10; l = less i ten; if l b o; b :; j = add i one; r = add s i; jump h j r; o :; print s; return",
	"struct int float *0 []*0; fn f a:*0 b:[]*0 c:float > float; n = int 0; indexcheck b n; p = get b n; q = same p a; if q x y; x :; return c; y :; nilcheck p; d = load 1 p; store 1 a d; e = fmul c d; return e; fn main; p = new 0; n = int 3; makecheck n; l = make []*0 n; k = int 1; put l k p; c = float 1.5; r = call f p l c; print r; return",
	"fn main; jump b; a :; return; b :; jump d; c :; x = read; panic x; d :; y = read; if y a c",
	"fn main; return; fn f a:int b:int > int; jump l a b; l p:int q:int :; if q m o; m :; s = add p q; jump l q s; o :; return p",
	"fn main; call main; jump a; a :; jump a",
}

// TestTidiedAlready: without a pass, what is tidy comes back as it is.
func TestTidiedAlready(t *testing.T) {
	for _, text := range tidyTexts {
		wantUntrimmed(t, "", text)
	}
}

// TestTidiedNumbers: without a pass, values come to be numbered block by block, Params ahead of Code.
func TestTidiedNumbers(t *testing.T) {
	for _, text := range tidyTexts {
		tidy := unitOf(text)
		turned := turnedNumbers(tidy)
		if got := unitText(optimized(t, turned, "")); got != unitText(tidy) {
			t.Errorf("%s\nis tidied to\n%s\nwant:\n%s", unitText(turned), got, unitText(tidy))
		}
	}
}

// TestTidiedByHand: all is written out, ahead and behind. The blocks keep their order, though the last one comes first.
func TestTidiedByHand(t *testing.T) {
	num := tyInt()
	u := impl.Unit{
		Structs: [][]impl.Ty{{tyPtr(0), num}, nil},
		Fns: []impl.Fn{{
			Params: []impl.Ty{num, tyFloat()},
			Res:    num,
			Vals: []impl.Val{
				{Op: impl.VaArith, N: impl.BiSub, Ty: num, Args: []int{4, 1}},
				{Ty: num},
				{Op: impl.VaRead, Ty: num},
				{Ty: tyFloat()},
				{Ty: num},
				{Op: impl.VaPrint, N: 1, Args: []int{3}},
			},
			Blocks: []impl.Block{
				{Params: []int{1, 3}, Code: []int{5, 2}, Out: []impl.Edge{{To: 2, Args: []int{2}}}},
				{Code: []int{0}, Term: impl.TmReturn, Args: []int{0}},
				{Params: []int{4}, Out: []impl.Edge{{To: 1}}},
			},
		}, {Blocks: []impl.Block{{Term: impl.TmReturn}}}},
		Main: 1,
	}
	want := []string{
		"struct *0 int", "struct",
		"fn int float > int",
		"b0 0:int 1:float; 2 = fprint 1; 3:int = read; jump b2 3",
		"b1; 4:int = sub 5 0; return 4",
		"b2 5:int; jump b1",
		"fn", "b0; return",
		"main 1",
	}
	if got := unitText(optimized(t, u, "")); got != strings.Join(want, "\n") {
		t.Errorf("%s\nwant:\n%s", got, strings.Join(want, "\n"))
	}
}

// TestTidiedBehindPasses: what stands nowhere behind a pass goes, and the numbers close up; so they do behind each pass.
func TestTidiedBehindPasses(t *testing.T) {
	text := "fn main; a = int 1; b = int 2; zerocheck b; x = read; jump m x a; m p:int q:int :; zerocheck q; c = int 2; y = add c p; print y; return"
	wantTrimmed(t, "f", text,
		"b0; 0:int = int 1; 1:int = int 2; 2:int = read; jump b1 2 0",
		"b1 3:int 4:int; 5 = zerocheck 4; 6:int = int 2; 7:int = add 6 3; 8 = print 7; return")
	wantTrimmed(t, "c", text,
		"b0; 0:int = int 1; 1:int = int 2; 2 = zerocheck 1; 3:int = read; jump b1",
		"b1; 4 = zerocheck 0; 5:int = int 2; 6:int = add 5 3; 7 = print 6; return")
	wantTrimmed(t, "s", text,
		"b0; 0:int = int 1; 1:int = int 2; 2 = zerocheck 1; 3:int = read; jump b1 3 0",
		"b1 4:int 5:int; 6 = zerocheck 5; 7:int = add 1 4; 8 = print 7; return")
	wantTrimmed(t, "d", text,
		"b0; 0:int = int 1; 1:int = int 2; 2 = zerocheck 1; 3:int = read; jump b1 3 0",
		"b1 4:int 5:int; 6 = zerocheck 5; 7:int = int 2; 8:int = add 7 4; 9 = print 8; return")
	wantTrimmed(t, "cfsd", text,
		"b0; 0:int = int 2; 1:int = read; jump b1",
		"b1; 2:int = add 0 1; 3 = print 2; return")
}

// TestBlocksThatGo: those that are no longer reached; the others keep their order, and edges lead to their new numbers.
func TestBlocksThatGo(t *testing.T) {
	wantTrimmed(t, "f", "fn main; x = int 0; if x a b; a :; print x; jump c; b :; y = int 2; jump c; c :; print x; return",
		"b0; 0:int = int 0; jump b1",
		"b1; 1:int = int 2; jump b2",
		"b2; 2 = print 0; return")
	// A whole part of the function, with a loop in it; the first block of it and the last one of all stay.
	wantTrimmed(t, "f", "fn main; jump f; a :; jump b; b :; r = read; if r a c; c :; jump g; d :; jump a; e :; z = read; print z; jump g; f :; x = int 1; if x e d; g :; return",
		"b0; jump b2",
		"b1; 0:int = read; 1 = print 0; jump b3",
		"b2; 2:int = int 1; jump b1",
		"b3; return")
	// What leads to a block that stays, from one that goes, takes what it brings with it.
	wantTrimmed(t, "f", "fn main; x = int 0; r = read; if x a b; a :; s = read; jump m s; b :; jump m r; m p:int :; print p; return",
		"b0; 0:int = int 0; 1:int = read; jump b1",
		"b1; jump b2 1",
		"b2 2:int; 3 = print 2; return")
	// An edge back goes, and with it the loop.
	wantTrimmed(t, "f", "fn main; x = int 0; jump h; h :; print x; if x b o; b :; jump h; o :; return",
		"b0; 0:int = int 0; jump b1",
		"b1; 1 = print 0; jump b2",
		"b2; return")
	// The way on goes, and with it the end.
	wantTrimmed(t, "f", "fn main; x = int 1; jump h; h :; print x; if x b o; b :; jump h; o :; return",
		"b0; 0:int = int 1; jump b1",
		"b1; 1 = print 0; jump b2",
		"b2; jump b1")
}

// TestEachFunctionByItself: passes are done to all functions, of which none hangs on another.
func TestEachFunctionByItself(t *testing.T) {
	u := unitOf("struct int; fn f a:int > int; x = int 1; y = int 1; z = add x y; return a; fn main; x = int 1; r = call f x; y = int 1; print r; return; fn g > *0; p = new 0; nilcheck p; return p")
	want := []string{"struct int",
		"fn int > int", "b0 0:int; return 0",
		"fn", "b0; 0:int = int 1; 1:int = call 0 0; 2 = print 1; return",
		"fn > *0", "b0; 0:*0 = new 0; return 0",
		"main 1"}
	if got := unitText(optimized(t, u, "fd")); got != strings.Join(want, "\n") {
		t.Errorf("%s\nwant:\n%s", got, strings.Join(want, "\n"))
	}
}
