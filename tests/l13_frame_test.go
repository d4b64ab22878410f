package tests

import (
	"fmt"
	"slices"
	"strings"
	"testing"

	"loop.example/g00306/impl"
)

// mainTail is a main that does nothing.
const (
	mainTail     = "; fn main; return"
	mainTailCode = "\ncode main 3 0; return"
)

// TestEmittedParams: none, in registers, in slots, some of each, as many as there may be; used or not.
func TestEmittedParams(t *testing.T) {
	wantEmitted(t, "fn f; return"+mainTail, "code f 3 0; return"+mainTailCode)
	wantEmitted(t, "fn f a:int; return"+mainTail, "code f 4 1; load r0 3; return"+mainTailCode)
	wantEmitted(t, "struct; fn f a:int b:float c:*0 d:[]*0; return"+mainTail, "struct; code f 7 4; load r0 3; load r1 4; load r2 5; load r3 6; return"+mainTailCode)
	wantEmitted(t, "fn f a:int b:int; call f b a; print b; return"+mainTail, "code f 6 2; load r0 3; load r15 4; store r15 5; load r12 5; pass r12 0; pass r0 1; call f; load r12 5; print r12; return"+mainTailCode)
	wantEmitted(t, "struct; fn f a:int b:*0 c:[]int d:float; print d; call main; nilcheck b; return"+mainTail,
		"struct; code f 8 4; load r0 3; load r15 4; store r15 7; load r1 5; load r2 6; printf r2; call main @ 7; load r12 7; nil r12; return"+mainTailCode)
	wantEmitted(t, "struct; fn f a:int b:*0 c:[]int d:float; call main; print d; n = len c; nilcheck b; print a; return"+mainTail,
		"struct; code f 11 4; load r15 3; store r15 7; load r15 4; store r15 8; load r15 5; store r15 9; load r15 6; store r15 10; call main @ 8 9; load r12 10; printf r12; load r12 9; len r0 r12; load r12 8; nil r12; load r12 7; print r12; return"+mainTailCode)
}

// TestEmittedParamsAreNotInOrder: the number of a parameter plays no part, its place does.
func TestEmittedParamsAreNotInOrder(t *testing.T) {
	u := turnedNumbers(unitOf("fn f a:int b:int c:int > int; x = sub b c; y = sub x a; return y; fn main; p = int 1; q = int 20; r = int 300; s = call f p q r; print s; return"))
	m, ok := emit(t, u)
	// All begin at one place, so the one with the least number, the last one, has the first register.
	want := machineOf("code f 6 3; load r2 3; load r1 4; load r0 5; sub r3 r1 r0; sub r0 r3 r2; result r0\ncode main 3 0; int r0 1; int r1 20; int r2 300; pass r0 0; pass r1 1; pass r2 2; call f; copy r3 r0; print r3; return")
	if !ok || !sameImage(m, want) {
		t.Errorf("%v:\n%swant:\n%s", ok, moText(m), moText(want))
	}
	if got := resultText(runMachine(t, m, setupOf(8, 40))); got != "exit in 16: -281" {
		t.Error(got)
	}
}

// frames are the Frames of the codes of a text's unit.
func frames(t *testing.T, text string) string {
	t.Helper()
	var list []int
	for _, c := range emitted(t, text).Codes {
		list = append(list, c.Frame)
	}
	return fmt.Sprint(list)
}

// TestEmittedFrames: the head, the Params, the slots, and as many words as the edge with most Args has.
func TestEmittedFrames(t *testing.T) {
	for _, x := range []struct{ text, want string }{
		{"fn main; return", "[3]"},
		{"fn main; jump a; a :; jump b; b :; return", "[3]"},
		{"fn main; x = read; if x a b; a :; return; b :; return", "[3]"},
		// Slots alone.
		{"fn main; x = read; call none; print x; return; fn none; return", "[4 3]"},
		{"fn main; x = read; y = read; call none; print x; print y; return; fn none; return", "[5 3]"},
		{sevenReads("") + "return", "[4]"},
		// Temps alone.
		{"fn main; x = read; jump a x; a p:int :; print p; return", "[4]"},
		{"fn main; x = read; jump a x x x x x; a p:int q:int r:int s:int u:int :; print p; return", "[8]"},
		// More edges, with fewer Args, ahead of and behind the one that counts.
		{"fn main; x = read; jump a x; a p:int :; jump b p p p; b q:int r:int s:int :; jump c q r; c u:int v:int :; jump d; d :; return", "[6]"},
		{"fn main; x = read; jump a x x x; a p:int q:int r:int :; jump b p; b s:int :; return", "[6]"},
		{"fn main; x = read; jump a x; a p:int :; jump b p p p; b q:int r:int s:int :; return", "[6]"},
		// Params count, too; both of each kind.
		{"fn f a:int b:int; jump x a; x c:int :; return; fn main; return", "[6 3]"},
		{"fn f a:int b:int; call main; jump x a b; x c:int d:int :; return; fn main; return", "[9 3]"},
		{"fn f a:int b:int c:int d:int; call main; print a; jump x a b c; x p:int q:int r:int :; jump y; y :; call main; jump z p; z s:int :; return; fn main; return", "[14 3]"},
		// Each function has its own.
		{"fn f; x = read; jump a x; a p:int :; return; fn main; x = read; jump a x x; a p:int q:int :; return; fn g a:int; return", "[4 5 4]"},
	} {
		if got := frames(t, x.text); got != x.want {
			t.Errorf("%s: %s, want %s", x.text, got, x.want)
		}
	}
}

// TestEmittedTempsBehindSlots: no word of a frame is used twice.
func TestEmittedTempsBehindSlots(t *testing.T) {
	wantEmitted(t, "fn f a:int b:int > int; call main; jump x b a; x p:int q:int :; call main; r = sub p q; return r"+mainTail,
		"code f 11 2; load r15 3; store r15 5; load r15 4; store r15 6; call main; load r15 6; store r15 9; load r15 5; store r15 10; load r15 9; store r15 7; load r15 10; store r15 8; jump x; "+
			"x :; call main; load r12 7; load r13 8; sub r0 r12 r13; result r0"+mainTailCode)
}

// greatFrame is a unit with a block of so many parameters, all of them needed at once, in a function that has as many
// Params as there may be.
func greatFrame(params int) string {
	var names, sorts, uses []string
	for n := range params {
		names = append(names, []string{"a", "b", "c", "d"}[n*3%7%4])
		sorts = append(sorts, fmt.Sprintf("p%d:int", n))
		uses = append(uses, fmt.Sprintf("print p%d; ", n))
	}
	return "fn f a:int b:int c:int d:int; jump x " + strings.Join(names, " ") + "; x " + strings.Join(sorts, " ") + " :; " + strings.Join(uses, "") + "return; " +
		"fn main; a = read; b = read; c = read; d = read; call f a b c d; return"
}

// TestEmittedGreatestFrame: no function comes to more than MaxFrame words, since what has more parameters than there are
// homes is refused for that. So there is none that is refused for its Frame.
func TestEmittedGreatestFrame(t *testing.T) {
	t.Parallel()
	const most = impl.MaxSlots + impl.Regs
	greatest := impl.Head + impl.MaxParams + impl.MaxSlots + most
	if greatest > impl.MaxFrame {
		t.Fatal("there is a greater one: ", greatest)
	}
	text := greatFrame(most)
	m := emitted(t, text)
	if m.Codes[0].Frame != greatest {
		t.Errorf("%d, want %d", m.Codes[0].Frame, greatest)
	}
	for _, s := range []impl.Setup{roomySetup(3, 50, 700, 9000), {Half: 8, Stack: 16, Fuel: 5000, Input: []int{1, 2, 3, 4}, Oracle: []int{2}}, {Half: 8, Stack: impl.MaxStack, Fuel: 5000, Oracle: []int{2}}} {
		if o, r := wantRunAlike(t, unitOf(text), m, s); r.End != impl.EndExit {
			t.Errorf("%s, %s", outcomeText(o), resultText(r))
		}
	}
	if m, ok := emit(t, unitOf(greatFrame(most+1))); ok || !sameImage(m, impl.Image{}) {
		t.Error("one parameter more is taken")
	}
}

// TestEmittedFramesFit: all words that instructions and maps name lie within the frame, and all of it is used: each word
// behind the Params by a store.
func TestEmittedFramesFit(t *testing.T) {
	t.Parallel()
	numbers := spread(30000)
	for round, u := range anyUnits(t, numbers, 150) {
		m, ok := impl.Emit(u)
		if !ok {
			t.Fatalf("round %d is refused:\n%s", round, showUnit(u))
		}
		for n, c := range m.Codes {
			stored := make([]bool, c.Frame)
			for _, i := range c.Ins {
				if i.Op == impl.MoStore {
					stored[i.N] = true
				}
			}
			if slices.Contains(stored[:impl.Head+c.Params], true) || slices.Contains(stored[impl.Head+c.Params:], false) {
				t.Fatalf("code %d of\n%s", n, moText(m))
			}
		}
	}
}
