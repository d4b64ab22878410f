package tests

import (
	"slices"
	"testing"

	"loop.example/g00306/impl"
)

// TestEmittedMain: whichever function it is, all stand in their order.
func TestEmittedMain(t *testing.T) {
	codes := []string{"code a 4 1; load r0 3; return", "code b 3 0; int r0 2; result r0", "code main 3 0; call b; print r0; return"}
	texts := []string{"fn a x:int; return", "fn b > int; x = int 2; return x", "fn main; r = call b; print r; return"}
	for _, order := range [][]int{{0, 1, 2}, {0, 2, 1}, {1, 0, 2}, {1, 2, 0}, {2, 0, 1}, {2, 1, 0}} {
		text, want := "", ""
		for _, n := range order {
			text, want = text+texts[n]+"\n", want+codes[n]+"\n"
		}
		wantEmitted(t, text, want)
		if m := emitted(t, text); m.Main != slices.Index(order, 2) {
			t.Errorf("main is %d of %v", m.Main, order)
		}
	}
	// Two of which each could be Main.
	u := unitOf("fn main; x = int 1; print x; return; fn other; x = int 2; print x; return")
	for n, want := range []string{"exit in 3: 1", "exit in 3: 2"} {
		u.Main = n
		m, ok := emit(t, u)
		if got := resultText(impl.RunImage(m, setupOf(8, 16))); !ok || m.Main != n || got != want {
			t.Errorf("main is %d: %v, %s", n, ok, got)
		}
	}
	for _, n := range []int{-1, 2, 3} {
		u.Main = n
		wantNoImage(t, "no main", u)
	}
}

// TestEmittedUncalled: functions that nobody calls are codes like all others.
func TestEmittedUncalled(t *testing.T) {
	text := "fn main; return"
	want := "code main 3 0; return"
	for _, name := range []string{"a", "b", "c", "d", "e", "f", "g"} {
		text += "; fn " + name + " x:int; call " + name + " x; print x; return"
		want += "\ncode " + name + " 5 1; load r15 3; store r15 4; load r12 4; pass r12 0; call " + name + "; load r12 4; print r12; return"
	}
	wantEmitted(t, text, want)
	wantNoImage(t, "one function too many", unitOf(text+"; fn h; return"))
}

// TestEmittedStructs: of each field whether it is a pointer or a list.
func TestEmittedStructs(t *testing.T) {
	wantEmitted(t, "struct int; struct float; struct *0; struct []int; struct []float; struct []*5; fn main; return", "struct .; struct .; struct *; struct *; struct *; struct *; code main 3 0; return")
	wantEmitted(t, "struct int float *0 []int []float; struct []*0 *1 int []*1 float; struct; fn main; return", "struct . . * * *; struct * * . * .; struct; code main 3 0; return")
	wantEmitted(t, "struct; fn main; return", "struct; code main 3 0; return")
	wantEmitted(t, "struct; struct int; fn main; p = new 0; q = new 1; x = load 0 q; print x; r = same p p; return", "struct; struct .; code main 4 0; new r15 0; store r15 3; new r0 1 @ 3; getf r1 r0 0; print r1; load r12 3; load r13 3; same r0 r12 r13; return")
	wantNoImage(t, "too many structs", unitOf("struct; struct; struct; struct; struct; struct; struct; fn main; return"))
	wantNoImage(t, "too many fields", unitOf("struct int int int int int int; fn main; return"))
	if m, ok := impl.Emit(unitOf("fn main; return")); !ok || len(m.Structs) != 0 {
		t.Error(ok, m.Structs)
	}
}

// TestEmittedEmptyUnits: the least there is.
func TestEmittedEmptyUnits(t *testing.T) {
	wantEmitted(t, "fn main; return", "code main 3 0; return")
	wantEmitted(t, "fn main; jump a; a :; jump b; b :; return", "code main 3 0; jump a; a :; jump b; b :; return")
	wantNoImage(t, "the zero unit", impl.Unit{})
	wantNoImage(t, "structs alone", unitOf("struct int"))
}

// TestEmittedSameTwice: what is handed in may be changed behind the call, and what is handed back, too.
func TestEmittedSameTwice(t *testing.T) {
	for _, text := range append([]string{refusedText}, append(homeTexts, optTexts...)...) {
		u := roomy(unitOf(text))
		first, ok := impl.Emit(u)
		second, same := impl.Emit(u)
		want := moText(first)
		if !ok || !same || moText(second) != want {
			t.Errorf("%v, %v of %s", ok, same, text)
		}
		for n := range u.Fns {
			clear(u.Fns[n].Vals)
			for b := range u.Fns[n].Blocks {
				clear(u.Fns[n].Blocks[b].Code)
				clear(u.Fns[n].Blocks[b].Params)
			}
			clear(u.Fns[n].Params)
		}
		clear(u.Structs)
		scrub(first)
		if moText(second) != want {
			t.Errorf("%s\nnot\n%s", moText(second), want)
		}
		if third, _ := impl.Emit(unitOf(text)); moText(third) != want {
			t.Errorf("%s\nnot\n%s", moText(third), want)
		}
	}
}
