package tests

import (
	"fmt"
	"testing"

	"loop.example/g00306/impl"
)

// TestDeepCallsOfUnits: main's call is the first of MaxCalls.
func TestDeepCallsOfUnits(t *testing.T) {
	text := "fn f n:int > int; if n more none; more :; one = int 1; m = sub n one; r = call f m; s = add r one; return s; none :; z = int 0; return z; fn main; n = read; r = call f n; print r; return"
	for _, n := range []int{0, 1, 2, impl.MaxCalls - 3, impl.MaxCalls - 2} {
		wantOutcomeOf(t, text, []int{n}, fmt.Sprintf("exit in %d: %d", 4+6*n+3, n))
	}
	for _, n := range []int{impl.MaxCalls - 1, impl.MaxCalls, 1000, -1} {
		wantOutcomeOf(t, text, []int{n}, fmt.Sprintf("deep in %d:", 2+4*(impl.MaxCalls-1)))
	}
	wantOutcomes(t, "", nil, [][2]string{
		{"fn main; call main; return", "deep in 60:"},
		{"fn main; call f; return; fn f; call g; return; fn g; call f; return", "deep in 60:"},
		{"fn f a:int > int; b = add a a; c = call f b; return c; fn main; x = int 1; y = call f x; print y; return", "deep in 120:"},
		{"fn main; x = int 1; print x; call main; print x; return", fmt.Sprint("deep in 180:", itemsOf(1, 60))},
	})
	// Calls that are over count no more.
	wantOutcomeOf(t, "fn f; return; fn main; k = int 200; one = int 1; jump h k; h n:int :; call f; m = sub n one; if m b o; b :; jump h m; o :; call f; return", nil, "exit in 1005:")
	// As deep as may be, over and over.
	wantOutcomeOf(t, "fn f n:int; if n a b; a :; one = int 1; m = sub n one; call f m; return; b :; print n; return; fn main; x = int 58; call f x; call f x; call f x; return", nil, "exit in 884: 0 0 0")
}

// itemsOf is a number, so often, as outcomes have it.
func itemsOf(n int, count int) string {
	text := ""
	for range count {
		text += fmt.Sprint(" ", n)
	}
	return text
}

func TestCallsOfUnits(t *testing.T) {
	heads := `struct int
fn add2 a:int b:int > int; c = add a b; return c
fn sub2 a:int b:int > int; c = sub a b; return c
fn say a:int; print a; return
fn half a:float > float; two = float 2; b = fdiv a two; return b
fn fresh a:int > *0; p = new 0; store 0 p a; return p
fn list n:int > []int; l = make []int n; return l
fn four a:int b:float c:*0 d:[]int; print a; print b; v = load 0 c; print v; k = len d; print k; return
`
	wantOutcomes(t, heads, nil, [][2]string{
		{"fn main; a = int 7; b = int 2; c = call sub2 a b; print c; d = call sub2 b a; print d; return", "exit in 11: 5 -5"},
		{"fn main; a = int 7; call say a; call say a; return", "exit in 8: 7 7"},
		{"fn main; a = int 7; b = call add2 a a; c = call add2 b b; d = call sub2 c a; print d; return", "exit in 12: 21"},
		{"fn main; a = float 3; b = call half a; print b; return", "exit in 7: 0f3ff8000000000000"},
		{"fn main; a = int 4; p = call fresh a; q = call fresh a; s = same p q; print s; v = load 0 q; print v; return", "exit in 14: 0 4"},
		{"fn main; a = int 4; f = float 1; p = call fresh a; l = call list a; call four a f p l; return", "exit in 18: 4 0f3ff0000000000000 4 4"},
		// A result that nobody takes.
		{"fn main; a = int 7; call add2 a a; print a; return", "exit in 6: 7"},
	})
	fib := "fn fib n:int > int; two = int 2; s = less n two; if s a b; a :; return n; b :; one = int 1; x = sub n one; y = sub n two; f = call fib x; g = call fib y; h = add f g; return h; "
	wantOutcomeOf(t, fib+"fn main; n = int 10; r = call fib n; print r; return", nil, "exit in 1240: 55")
}

// TestValuesBehindCalls: those of the caller are as they were, though the same function used them in between.
func TestValuesBehindCalls(t *testing.T) {
	wantOutcomeOf(t, "fn f n:int; sq = mul n n; if n a b; a :; one = int 1; m = sub n one; call f m; jump c; b :; jump c; c :; print n; print sq; return; fn main; x = int 3; call f x; print x; return", nil, "exit in 37: 0 0 1 1 2 4 3 9 3")
	// In a loop that calls its own function.
	wantOutcomeOf(t, "fn f n:int > int; z = int 0; one = int 1; jump h n z; h k:int s:int :; if k b o; b :; m = sub k one; r = call f m; t = add s r; jump h m t; o :; u = add s one; return u; fn main; x = int 4; y = call f x; print y; return", nil, "exit in 175: 16")
	// Params that are set anew in the call stay in the caller.
	wantOutcomeOf(t, "fn f a:int > int; one = int 1; jump h a; h x:int :; y = add x one; z = less y y; if z h2 o; h2 :; jump h y; o :; return y; fn main; a = int 1; b = call f a; print a; print b; return", nil, "exit in 11: 1 2")
}

// TestUnitsAreNotKept: what one call did is nowhere to be seen in the next one.
func TestUnitsAreNotKept(t *testing.T) {
	var units []impl.Unit
	for _, text := range []string{
		"fn main; x = read; print x; y = read; print y; return", "fn main; x = read; panic x", "fn main; x = int 0; y = div x x; return", "fn main; call main; return",
		"fn main; jump a; a :; x = read; print x; jump a", "struct int; fn main; p = new 0; x = load 0 p; print x; y = read; store 0 p y; return", "fn main; print x; x = read; return",
	} {
		units = append(units, unitOf(text))
	}
	var first []impl.Outcome
	for _, u := range units {
		first = append(first, runUnit(t, u, []int{4, 5}, 90))
	}
	for round := range 3 {
		for i := range units {
			at := (i*5 + round) % len(units)
			if o := runUnit(t, units[at], []int{4, 5}, 90); !sameOutcome(o, first[at]) {
				t.Errorf("%d, once more: %s, at first: %s", at, outcomeText(o), outcomeText(first[at]))
			}
			impl.RunUnit(units[at], []int{4, 5}, 50-round)
			impl.UnitOk(units[at])
			impl.Doms(units[at].Fns[0])
		}
	}
	a, b := impl.RunUnit(units[4], []int{1}, 100), impl.RunUnit(units[4], []int{1}, 100)
	wantFresh(t, a, b)
	for i := range a.Out {
		a.Out[i] = impl.Item{Kind: -1, N: -1}
	}
	if c := impl.RunUnit(units[4], []int{1}, 100); !sameOutcome(b, c) {
		t.Errorf("%s and %s", outcomeText(b), outcomeText(c))
	}
}

// TestUnitsWithSharedLists: a unit may hold one list in two places.
func TestUnitsWithSharedLists(t *testing.T) {
	u := unitOf("fn f a:int b:int > int; c = sub a b; return c; fn main; x = int 1; y = int 2; z = sub x y; w = call f x y; print z; print w; return")
	u.Fns[1].Vals[3].Args = u.Fns[1].Vals[2].Args
	u.Fns = append(u.Fns, u.Fns[0])
	if !impl.UnitOk(u) {
		t.Fatal("refused")
	}
	if o := impl.RunUnit(u, nil, 100); outcomeText(o) != "exit in 9: -1 -1" {
		t.Error(outcomeText(o))
	}
}
