package tests

import (
	"fmt"
	"testing"

	"loop.example/g00306/impl"
)

// wantCalls is wantEmitted of a main that returns behind its code, with the same functions and codes behind it.
func wantCalls(t *testing.T, fns [2]string, body string, frame int, code string) {
	t.Helper()
	wantEmitted(t, "fn main; "+body+"; return; "+fns[0], fmt.Sprintf("code main %d 0; %s; return\n%s", frame, code, fns[1]))
}

// What is called: with no Params, with one and a result, with two, with as many as there may be.
var (
	callNone = [2]string{"fn none; return", "code none 3 0; return"}
	callOne  = [2]string{"fn one a:int > int; return a", "code one 4 1; load r0 3; result r0"}
	callTwo  = [2]string{"fn two a:int b:int > int; c = sub a b; return c", "code two 5 2; load r0 3; load r1 4; sub r2 r0 r1; result r2"}
	callFour = [2]string{"fn four a:int b:int c:int d:int; print d; print c; print b; print a; return", "code four 7 4; load r0 3; load r1 4; load r2 5; load r3 6; print r3; print r2; print r1; print r0; return"}
	callSix  = [2]string{"fn six > int; x = int 6; return x", "code six 3 0; int r0 6; result r0"}
)

// bothCalls puts functions and codes behind others.
func bothCalls(a [2]string, b [2]string) [2]string {
	return [2]string{a[0] + "; " + b[0], a[1] + "\n" + b[1]}
}

// TestEmittedArgs: none, one, as many as there may be; each is got and passed before the next one is got.
func TestEmittedArgs(t *testing.T) {
	wantCalls(t, callNone, "call none; call none", 3, "call none; call none")
	wantCalls(t, callOne, "x = read; r = call one x; print r", 3, "read r0; pass r0 0; call one; copy r1 r0; print r1")
	wantCalls(t, callFour, "a = read; b = read; c = read; d = read; call four a b c d", 3, "read r0; read r1; read r2; read r3; pass r0 0; pass r1 1; pass r2 2; pass r3 3; call four")
	wantCalls(t, callFour, "a = read; b = read; c = read; d = read; call four d a c b", 3, "read r0; read r1; read r2; read r3; pass r3 0; pass r0 1; pass r2 2; pass r1 3; call four")
	// All from slots come by the same register.
	wantCalls(t, callFour, "a = read; b = read; c = read; d = read; call four a b c d; call four d c b a", 7,
		"read r15; store r15 3; read r15; store r15 4; read r15; store r15 5; read r15; store r15 6; load r12 3; pass r12 0; load r12 4; pass r12 1; load r12 5; pass r12 2; load r12 6; pass r12 3; call four; "+
			"load r12 6; pass r12 0; load r12 5; pass r12 1; load r12 4; pass r12 2; load r12 3; pass r12 3; call four")
	wantCalls(t, bothCalls(callTwo, callNone), "a = read; call none; b = read; r = call two b a; s = call two a b; print s", 5,
		"read r15; store r15 3; call none; read r15; store r15 4; load r12 4; pass r12 0; load r12 3; pass r12 1; call two; load r12 3; pass r12 0; load r12 4; pass r12 1; call two; print r0")
	// One value as all of the Args.
	wantCalls(t, callFour, "a = read; call four a a a a", 3, "read r0; pass r0 0; pass r0 1; pass r0 2; pass r0 3; call four")
	wantCalls(t, callTwo, "a = read; r = call two a a; s = call two a a; print s", 4,
		"read r15; store r15 3; load r12 3; pass r12 0; load r12 3; pass r12 1; call two; load r12 3; pass r12 0; load r12 3; pass r12 1; call two; print r0")
}

// TestEmittedResults: none, in register 0, in another one, in a slot; and where nobody uses it.
func TestEmittedResults(t *testing.T) {
	wantCalls(t, callSix, "r = call six; print r", 3, "call six; print r0")
	wantCalls(t, callSix, "call six", 3, "call six")
	wantCalls(t, callSix, "x = int 1; r = call six; print r", 3, "int r0 1; call six; print r0")
	wantCalls(t, callOne, "x = read; r = call one x", 3, "read r0; pass r0 0; call one; copy r1 r0")
	wantCalls(t, callTwo, "x = read; y = read; r = call two y x; print r", 3, "read r0; read r1; pass r1 0; pass r0 1; call two; copy r2 r0; print r2")
	wantCalls(t, callSix, "r = call six; s = call six; d = sub r s; print d", 4, "call six; copy r15 r0; store r15 3; call six; load r12 3; sub r1 r12 r0; print r1")
	// Needed in blocks further on.
	wantCalls(t, callSix, "r = call six; jump b; b :; call six; print r; jump c; c :; print r", 4, "call six; copy r15 r0; store r15 3; jump b; b :; call six; load r12 3; print r12; jump c; c :; load r12 3; print r12")
}

// TestEmittedResultsOfEachType: whatever it is, it comes in register 0; a place is in maps from then on.
func TestEmittedResultsOfEachType(t *testing.T) {
	for ty, x := range map[string][2]string{
		"int": {"print r", "print r12"}, "float": {"print r", "printf r12"}, "*0": {"nilcheck r", "nil r12"}, "[]int": {"n = len r; print n", "len r0 r12; print r0"},
		"[]float": {"n = len r; print n", "len r0 r12; print r0"}, "[]*0": {"n = len r; print n", "len r0 r12; print r0"},
	} {
		made, slots := "nil "+ty, " @ 3"
		if ty == "int" || ty == "float" {
			made, slots = ty+" 0", ""
		}
		wantEmitted(t, "struct; fn main; r = call it; call none; "+x[0]+"; return; fn it > "+ty+"; x = "+made+"; return x; fn none; return",
			"struct; code main 4 0; call it; copy r15 r0; store r15 3; call none"+slots+"; load r12 3; "+x[1]+"; return\ncode it 3 0; int r0 0; result r0\ncode none 3 0; return")
	}
}

// TestEmittedResultForWantOfARegister: it is made in a slot, though it is in no Across.
func TestEmittedResultForWantOfARegister(t *testing.T) {
	// Six that are not needed behind the call, but keep their registers up to it, by the number of their blocks.
	text := "fn main; c = read; a0 = read; a1 = read; a2 = read; a3 = read; a4 = read; a5 = read; if c x y; x :; r = call six; jump z r; y :; print a0; print a1; print a2; print a3; print a4; print a5; jump z c; z p:int :; print p; return; fn six > int; x = int 6; return x"
	u := unitOf(text)
	list, _ := impl.Homes(u, 0)
	r := asmOf(text).fns[0].vals["r"]
	if list[r] < impl.Regs {
		t.Fatalf("r has the register %d", list[r])
	}
	m := emitted(t, text)
	for _, input := range append(someInputs(), []int{0, 1, 2, 3, 4, 5, 6}, []int{7, 1, 2, 3, 4, 5, 6}) {
		wantImageDoes(t, u, m, input)
	}
}

// TestEmittedCallsWithinCalls: results are Args of other calls.
func TestEmittedCallsWithinCalls(t *testing.T) {
	wantCalls(t, callOne, "x = read; r = call one x; s = call one r; print s", 3, "read r0; pass r0 0; call one; copy r1 r0; pass r1 0; call one; print r0")
	wantCalls(t, bothCalls(callOne, callTwo), "x = read; r = call one x; s = call one x; u = call two r s; print u", 5,
		"read r15; store r15 3; load r12 3; pass r12 0; call one; copy r15 r0; store r15 4; load r12 3; pass r12 0; call one; load r12 4; pass r12 0; pass r0 1; call two; copy r1 r0; print r1")
	// Each calls the next one.
	wantEmitted(t, "fn a x:int > int; y = call b x; z = add y x; return z; fn b x:int > int; y = call c x; z = mul y x; return z; fn c x:int > int; y = sub x x; return y; fn main; x = read; r = call a x; print r; return",
		"code a 5 1; load r15 3; store r15 4; load r12 4; pass r12 0; call b; load r13 4; add r1 r0 r13; result r1\n"+
			"code b 5 1; load r15 3; store r15 4; load r12 4; pass r12 0; call c; load r13 4; mul r1 r0 r13; result r1\n"+
			"code c 4 1; load r0 3; sub r1 r0 r0; result r1\n"+
			"code main 3 0; read r0; pass r0 0; call a; copy r1 r0; print r1; return")
}

// TestEmittedCallsOfItself: by itself and by another one, with what is needed behind each call.
func TestEmittedCallsOfItself(t *testing.T) {
	const product = "fn f n:int > int; one = int 1; if n a b; a :; m = sub n one; r = call f m; s = mul n r; return s; b :; return one; fn main; x = int 5; r = call f x; print r; return"
	wantEmitted(t, product,
		"code f 5 1; load r15 3; store r15 4; int r0 1; load r15 4; if r15 b; jump a; a :; load r12 4; sub r1 r12 r0; pass r1 0; call f; copy r2 r0; load r12 4; mul r1 r12 r2; result r1; b :; result r0\n"+
			"code main 3 0; int r0 5; pass r0 0; call f; copy r1 r0; print r1; return")
	// Five calls of 14 instructions each, one of 6, and 6 of main.
	if r := impl.RunImage(emitted(t, product), setupOf(8, 16)); resultText(r) != "exit in 82, copies 2: 120" {
		t.Error(resultText(r))
	}
	text := "fn even n:int > int; one = int 1; if n a b; a :; m = sub n one; r = call odd m; return r; b :; return one; fn odd n:int > int; one = int 1; zero = int 0; if n a b; a :; m = sub n one; r = call even m; return r; b :; return zero; fn main; x = read; r = call even x; print r; return"
	m := emitted(t, text)
	for n := range 70 {
		o, list := wantImageDoes(t, unitOf(text), m, []int{n})
		for _, r := range list {
			if r.End != o.End {
				t.Errorf("%d: %s", n, resultText(r))
			}
		}
		// Main, and one more than the number, are under way at most.
		if want := map[bool]int{true: impl.EndExit, false: impl.EndDeep}[n+2 <= impl.MaxCalls]; o.End != want {
			t.Errorf("%d: %s", n, outcomeText(o))
		}
	}
}

// TestEmittedCallsWithoutEnd: as deep as may be, or till no memory is left.
func TestEmittedCallsWithoutEnd(t *testing.T) {
	small := emitted(t, "fn main; call main; return")
	if got := resultText(impl.RunImage(small, setupOf(8, 2000))); got != "deep in 60:" {
		t.Error(got)
	}
	// Frames of 3 + 400 words: 60 of them are more than there is for stacks.
	text := "fn main; " + readsAndPrints("x", impl.MaxSlots, "call main; ") + "return"
	great := emitted(t, text)
	for _, s := range []impl.Setup{setupOf(8, 16), setupOf(8, 2000), setupOf(8, 2000, 2, 2, 2, 2)} {
		s.Fuel = impl.MaxFuel
		if r := runMachine(t, great, s); r.End != impl.EndMemory || r.Copies == 0 {
			t.Error(resultText(r))
		}
	}
	if o := impl.RunUnit(unitOf(text), nil, impl.MaxFuel); o.End != impl.EndDeep {
		t.Error(outcomeText(o))
	}
}
