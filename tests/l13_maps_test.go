package tests

import (
	"slices"
	"testing"

	"loop.example/g00306/impl"
)

// TestEmittedMaps: one at each safe place of each kind, none elsewhere; with what is a place of an object alone.
func TestEmittedMaps(t *testing.T) {
	wantMain(t, sampleStructs, "x = read; print x", 3, "read r0; print r0")
	// Nothing is alive across.
	wantMain(t, sampleStructs, "k = int 1; p = new 0; l = make []int k; call none", 4, "int r15 1; store r15 3; new r0 0; load r12 3; ints r0 r12; call none")
	for _, safe := range [][2]string{{"q = new 1", "new r0 1"}, {"q = make []int k", "ints r1 r0"}, {"q = make []*0 k", "ptrs r1 r0"}, {"call none", "call none"}} {
		// Ints and floats, pointers and lists.
		wantMain(t, sampleStructs, "p = nil *0; x = read; l = nil []int; f = float 0; m = nil []float; n = nil []*1; k = int 2; "+safe[0]+"; print x; print f; nilcheck p; a = len l; b = len m; c = len n; print c", 9,
			"int r15 0; store r15 3; read r15; store r15 4; int r15 0; store r15 5; int r15 0; store r15 6; int r15 0; store r15 7; int r15 0; store r15 8; int r0 2; "+safe[1]+" @ 3 5 7 8; "+
				"load r12 4; print r12; load r12 6; printf r12; load r12 3; nil r12; load r12 5; len r0 r12; load r12 7; len r0 r12; load r12 8; len r0 r12; print r0")
		// Numbers alone.
		wantMain(t, sampleStructs, "x = read; f = float 0; k = int 2; "+safe[0]+"; print x; print f", 5, "read r15; store r15 3; int r15 0; store r15 4; int r0 2; "+safe[1]+"; load r12 3; print r12; load r12 4; printf r12")
		// Needed ahead of it alone.
		wantMain(t, sampleStructs, "p = nil *0; r = same p p; print r; k = int 2; "+safe[0], 3, "int r0 0; same r1 r0 r0; print r1; int r0 2; "+safe[1])
	}
	// What is passed is not needed behind the call; the callee has it.
	wantEmitted(t, "struct *0; fn main; p = new 0; q = call f p; nilcheck q; return; fn f p:*0 > *0; q = new 0; store 0 q p; return q",
		"struct *; code main 3 0; new r0 0; pass r0 0; call f; copy r1 r0; nil r1; return\ncode f 5 1; load r15 3; store r15 4; new r0 0 @ 4; load r13 4; putf r0 r13 0; result r0")
	// What is passed, and needed behind it.
	wantEmitted(t, "struct *0; fn main; p = new 0; q = call f p; r = same p q; print r; return; fn f p:*0 > *0; return p",
		"struct *; code main 4 0; new r15 0; store r15 3; load r12 3; pass r12 0; call f @ 3; load r12 3; same r1 r12 r0; print r1; return\ncode f 4 1; load r0 3; result r0")
}

// TestEmittedMapsGrow: what is made is in the maps behind it, but not in its own, up to where it is used for the last time.
func TestEmittedMapsGrow(t *testing.T) {
	wantMain(t, sampleStructs, "p = new 1; q = new 1; r = new 1; s = new 1; a = same p q; b = same r s; call none; nilcheck r; call none; nilcheck q", 6,
		"new r15 1; store r15 3; new r15 1 @ 3; store r15 4; new r15 1 @ 3 4; store r15 5; new r0 1 @ 3 4 5; load r12 3; load r13 4; same r1 r12 r13; load r12 5; same r1 r12 r0; "+
			"call none @ 4 5; load r12 5; nil r12; call none @ 4; load r12 4; nil r12")
}

// TestEmittedMapsAscend: slots in order, where values with greater numbers have lesser slots.
func TestEmittedMapsAscend(t *testing.T) {
	wantEmitted(t, "struct; fn main; jump b; a :; p = new 0; nilcheck x; return; b :; y = new 0; x = nil *0; q = new 0; nilcheck y; jump a",
		"struct; code main 5 0; jump b; a :; new r0 0 @ 3; load r12 3; nil r12; return; b :; new r15 0; store r15 4; int r15 0; store r15 3; new r0 0 @ 3 4; load r12 4; nil r12; jump a")
	// With the numbers the other way round, the same slots are told.
	u := unitOf("struct; fn main; p = new 0; q = new 0; r = new 0; call none; nilcheck r; nilcheck q; nilcheck p; return; fn none; return")
	for _, v := range []impl.Unit{u, turnedNumbers(u)} {
		m, ok := emit(t, v)
		if maps := m.Codes[0].Maps; !ok || len(maps) != 4 || len(maps[0].Slots) != 0 || !slices.Equal(maps[1].Slots, []int{3}) || !slices.Equal(maps[2].Slots, []int{3, 4}) || !slices.Equal(maps[3].Slots, []int{3, 4, 5}) {
			t.Errorf("%v:\n%s", ok, moText(m))
		}
	}
}

// TestEmittedMapsByEachUse: needed behind a safe place by the end of a block, by an edge, by a block further on, by the
// next turn of a loop.
func TestEmittedMapsByEachUse(t *testing.T) {
	wantEmitted(t, "struct; fn f > *0; p = new 0; call main; return p"+mainTail, "struct; code f 4 0; new r15 0; store r15 3; call main @ 3; load r15 3; result r15"+mainTailCode)
	wantEmitted(t, "struct; fn f; p = new 0; call main; jump a p; a q:*0 :; nilcheck q; return"+mainTail,
		"struct; code f 5 0; new r15 0; store r15 3; call main @ 3; load r15 3; store r15 4; load r0 4; jump a; a :; nil r0; return"+mainTailCode)
	wantEmitted(t, "struct; fn f; p = new 0; call main; jump a; a :; call main; jump b; b :; nilcheck p; return"+mainTail,
		"struct; code f 4 0; new r15 0; store r15 3; call main @ 3; jump a; a :; call main @ 3; jump b; b :; load r12 3; nil r12; return"+mainTailCode)
	wantEmitted(t, "struct; fn f; p = new 0; jump a; a :; nilcheck p; call main; x = read; if x a b; b :; return"+mainTail,
		"struct; code f 4 0; new r15 0; store r15 3; jump a; a :; load r12 3; nil r12; call main @ 3; read r0; if r0 b; jump a; b :; return"+mainTailCode)
	// By one of two ways.
	wantEmitted(t, "struct; fn f; p = new 0; call main; x = read; if x a b; a :; nilcheck p; return; b :; call main; return"+mainTail,
		"struct; code f 4 0; new r15 0; store r15 3; call main @ 3; read r0; if r0 b; jump a; a :; load r12 3; nil r12; return; b :; call main; return"+mainTailCode)
}

// TestEmittedMapsOfParams: those in slots, by the words of their slots and not by those that they were passed in.
func TestEmittedMapsOfParams(t *testing.T) {
	wantEmitted(t, "struct int; fn f a:*0 b:int c:[]*0; call main; x = load 0 a; print x; print b; n = len c; print n; return"+mainTail,
		"struct .; code f 9 3; load r15 3; store r15 6; load r15 4; store r15 7; load r15 5; store r15 8; call main @ 6 8; load r12 6; getf r0 r12 0; print r0; load r12 7; print r12; load r12 8; len r0 r12; print r0; return"+mainTailCode)
	wantEmitted(t, "struct; fn f; p = nil *0; jump a p p; a q:*0 r:*0 :; call main; nilcheck r; return"+mainTail,
		"struct; code f 6 0; int r0 0; store r0 4; store r0 5; load r0 4; load r15 5; store r15 3; jump a; a :; call main @ 3; load r12 3; nil r12; return"+mainTailCode)
}

// TestEmittedMapsMatter: without any one slot of a map, some run ends another way; so what is told is not too much.
func TestEmittedMapsMatter(t *testing.T) {
	text := "struct int *0 []*0; fn chain n:int p:*0 > *0; q = new 0; store 0 q n; store 1 q p; k = int 2; l = make []*0 k; i = int 1; put l i p; store 2 q l; if n a b; a :; one = int 1; m = sub n one; r = call chain m q; s = new 0; store 1 s r; store 2 s l; return s; b :; return q; " +
		"fn main; k = int 9; z = nil *0; p = call chain k z; q = call chain k p; jump h p q; h x:*0 y:*0 :; t = new 0; nilcheck x; v = load 0 x; print v; w = load 1 x; n = nil *0; u = same w n; if u o c; c :; jump h w t; o :; nilcheck y; vv = load 0 y; print vv; return"
	u := unitOf(text)
	m := emitted(t, text)
	plain := runMachine(t, m, impl.Setup{Half: impl.MaxHalf, Stack: impl.MaxStack, Fuel: 5000, Oracle: slices.Repeat([]int{1}, impl.MaxOracle)})
	if o := impl.RunUnit(u, nil, 5000); plain.End != impl.EndExit || !slices.Equal(o.Out, plain.Out) || plain.Moves < 50 {
		t.Fatalf("%s, %s", outcomeText(o), resultText(plain))
	}
	dropped := 0
	for c := range m.Codes {
		for n := range m.Codes[c].Maps {
			for at := range m.Codes[c].Maps[n].Slots {
				less := roomy(m)
				slots := &less.Codes[c].Maps[n].Slots
				*slots = slices.Delete(*slots, at, at+1)
				seen := false
				for _, oracle := range [][]int{slices.Repeat([]int{1}, impl.MaxOracle), slices.Repeat([]int{1, 0}, 1000), slices.Repeat([]int{0, 1, 0}, 600)} {
					r := impl.RunImage(less, impl.Setup{Half: impl.MaxHalf, Stack: impl.MaxStack, Fuel: 5000, Oracle: oracle})
					seen = seen || r.End != plain.End || !slices.Equal(r.Out, plain.Out)
				}
				if !seen {
					t.Errorf("nobody misses the slot %d of the map %d of the code %d", at, n, c)
				}
				dropped++
			}
		}
	}
	if dropped < 9 {
		t.Errorf("only %d slots", dropped)
	}
}
