package tests

import (
	"testing"

	"loop.example/g00306/impl"
)

// TestEmittedIfs: where it is 0 to the second block, by a jump to the first one else; whatever comes next.
func TestEmittedIfs(t *testing.T) {
	wantEmitted(t, "fn main; x = read; if x a b; a :; print x; return; b :; panic x", "code main 3 0; read r0; if r0 b; jump a; a :; print r0; return; b :; panic r0")
	wantEmitted(t, "fn main; x = read; if x b a; a :; print x; return; b :; panic x", "code main 3 0; read r0; if r0 a; jump b; a :; print r0; return; b :; panic r0")
	// From a slot.
	wantEmitted(t, "fn main; x = read; call none; if x a b; a :; return; b :; panic x; fn none; return",
		"code main 4 0; read r15; store r15 3; call none; load r15 3; if r15 b; jump a; a :; return; b :; load r15 3; panic r15\ncode none 3 0; return")
	// Back: to itself, to one ahead, by the first edge and by the second.
	wantEmitted(t, "fn main; jump a; a :; x = read; if x a b; b :; return", "code main 3 0; jump a; a :; read r0; if r0 b; jump a; b :; return")
	wantEmitted(t, "fn main; jump a; a :; x = read; if x b a; b :; return", "code main 3 0; jump a; a :; read r0; if r0 a; jump b; b :; return")
	wantEmitted(t, "fn main; jump a; a :; jump b; b :; x = read; if x a c; c :; y = read; if y d b; d :; return",
		"code main 3 0; jump a; a :; jump b; b :; read r0; if r0 c; jump a; c :; read r0; if r0 b; jump d; d :; return")
	// Of what is no 1.
	wantEmitted(t, "fn main; x = int -3; if x a b; a :; print x; return; b :; return", "code main 3 0; int r0 -3; if r0 b; jump a; a :; print r0; return; b :; return")
	wantEmitted(t, "fn main; x = int 0; if x a b; a :; print x; return; b :; return", "code main 3 0; int r0 0; if r0 b; jump a; a :; print r0; return; b :; return")
}

// TestEmittedReturns: with and without an Arg, in a register and in a slot.
func TestEmittedReturns(t *testing.T) {
	wantEmitted(t, "fn f; return"+mainTail, "code f 3 0; return"+mainTailCode)
	wantEmitted(t, "fn f a:int > int; return a; fn main; x = read; r = call f x; print r; return", "code f 4 1; load r0 3; result r0\ncode main 3 0; read r0; pass r0 0; call f; copy r1 r0; print r1; return")
	wantEmitted(t, "fn f a:int b:float > float; return b"+mainTail, "code f 5 2; load r0 3; load r1 4; result r1"+mainTailCode)
	wantEmitted(t, "fn f > int; x = read; call main; return x"+mainTail, "code f 4 0; read r15; store r15 3; call main; load r15 3; result r15"+mainTailCode)
	wantEmitted(t, "fn f a:int > int; if a x y; x :; b = add a a; return b; y :; return a"+mainTail, "code f 4 1; load r0 3; if r0 y; jump x; x :; add r1 r0 r0; result r1; y :; result r0"+mainTailCode)
	// From main: nothing goes on.
	wantEmitted(t, "fn main; x = read; if x a b; a :; return; b :; print x; return", "code main 3 0; read r0; if r0 b; jump a; a :; return; b :; print r0; return")
}

// TestEmittedPanics: of what is in a register and of what is in a slot, in main and in what is called.
func TestEmittedPanics(t *testing.T) {
	wantEmitted(t, "fn main; x = read; panic x", "code main 3 0; read r0; panic r0")
	wantEmitted(t, "fn main; x = read; y = read; panic y", "code main 3 0; read r0; read r0; panic r0")
	wantEmitted(t, "fn main; x = int -5; call none; panic x; fn none; return", "code main 4 0; int r15 -5; store r15 3; call none; load r15 3; panic r15\ncode none 3 0; return")
	wantEmitted(t, "fn f a:int b:int > int; panic b; fn main; x = read; y = read; r = call f y x; print r; return",
		"code f 5 2; load r0 3; load r1 4; panic r1\ncode main 3 0; read r0; read r1; pass r1 0; pass r0 1; call f; copy r2 r0; print r2; return")
}

// TestEmittedEndsThatMayNotBe: an end that is none, a choice of one block, a block that is not reached: no unit, no image.
func TestEmittedEndsThatMayNotBe(t *testing.T) {
	wantNoImage(t, "a choice of one block", unitOf("fn main; x = read; if x a a; a :; return"))
	wantNoImage(t, "a block that is not reached", unitOf("fn main; return; a :; return"))
	wantNoImage(t, "two blocks that reach each other alone", unitOf("fn main; return; a :; jump b; b :; jump a"))
	wantNoImage(t, "a choice with Args", edited("fn main; x = read; if x a b; a p:int :; return; b :; return", func(u *impl.Unit) { u.Fns[0].Blocks[0].Out[0].Args = []int{0} }))
	for _, term := range []int{-1, 4, 1 << 40} {
		wantNoImage(t, "no end", edited("fn main; return", func(u *impl.Unit) { u.Fns[0].Blocks[0].Term = term }))
	}
}
