package tests

import (
	"fmt"
	"math"
	"slices"
	"testing"

	"loop.example/g00306/impl"
)

// TestStepsOfUnits: each value of Code is one, each block's end is one; parameters and edges are none.
func TestStepsOfUnits(t *testing.T) {
	wantOutcomes(t, "", nil, [][2]string{
		{"fn main; return", "exit in 1:"},
		{"fn main; x = int 3; return", "exit in 2:"},
		{"fn main; x = int 3; panic x", "panic 3 in 2:"},
		{"fn main; x = int 3; print x; return", "exit in 3: 3"},
		{"fn main; jump a; a :; return", "exit in 2:"},
		{"fn main; jump a; a :; jump b; b :; jump c; c :; return", "exit in 4:"},
		{"fn main; x = int 3; jump a x; a p:int :; print p; return", "exit in 4: 3"},
		{"fn main; x = int 3; jump a x x x x; a p:int q:int r:int s:int :; return", "exit in 3:"},
		{"fn main; x = int 3; jump a x; a p:int :; jump b p p; b q:int r:int :; print r; return", "exit in 5: 3"},
		{"fn main; x = int 3; if x a b; a :; return; b :; print x; return", "exit in 3:"},
		{"fn main; x = int 0; if x a b; a :; return; b :; print x; return", "exit in 4: 0"},
		{"fn f; return; fn main; call f; return", "exit in 3:"},
		{"fn f a:int b:int; return; fn main; x = int 1; call f x x; return", "exit in 4:"},
		{"fn f a:int > int; return a; fn main; x = int 1; y = call f x; print y; return", "exit in 5: 1"},
		{"fn f a:int > int; b = add a a; jump c b; c d:int :; return d; fn main; x = int 1; y = call f x; print y; return", "exit in 7: 2"},
	})
	// Each op is one step, whatever it does.
	heads := "struct int *0; fn none; return; fn main; i = int 2; f = float 2; p = new 0; l = make []int i; "
	for _, op := range []string{
		"int 7", "float 7", "nil *0", "nil []int", "add i i", "sub i i", "mul i i", "div i i", "rem i i", "less i i", "eq i i", "fadd f f", "fless f f", "feq f f", "same p p", "toint f", "tofloat i", "len l",
		"new 0", "make []*0 i", "nilcheck p", "indexcheck l k", "zerocheck i", "makecheck i", "load 1 p", "store 0 p i", "get l k", "put l k i", "read",
	} {
		wantOutcomeOf(t, heads+"k = int 1; "+op+"; return", []int{4}, "exit in 7:")
	}
	wantOutcomeOf(t, heads+"print i; print f; return", nil, "exit in 7: 2 0f4000000000000000")
	wantOutcomeOf(t, heads+"call none; return", nil, "exit in 7:")
}

func TestEachFuel(t *testing.T) {
	wantUnitWithFuel(t, "fn main; return", nil, "fuel in 0:", "exit in 1:", "exit in 1:", "exit in 1:")
	wantUnitWithFuel(t, "fn main; x = read; y = add x x; print y; print x; return", []int{4}, "fuel in 0:", "fuel in 1:", "fuel in 2:", "fuel in 3: 8", "fuel in 4: 8 4", "exit in 5: 8 4", "exit in 5: 8 4")
	wantUnitWithFuel(t, "fn main; x = int 7; print x; panic x", nil, "fuel in 0:", "fuel in 1:", "fuel in 2: 7", "panic 7 in 3: 7", "panic 7 in 3: 7")
	wantUnitWithFuel(t, "fn main; x = int 0; print x; zerocheck x; print x; return", nil, "fuel in 0:", "fuel in 1:", "fuel in 2: 0", "trap zero in 3: 0", "trap zero in 3: 0")
	wantUnitWithFuel(t, "struct int; fn main; p = nil *0; nilcheck p; return", nil, "fuel in 0:", "fuel in 1:", "trap nil in 2:", "trap nil in 2:")
	wantUnitWithFuel(t, "fn main; l = nil []int; i = int 0; indexcheck l i; return", nil, "fuel in 0:", "fuel in 1:", "fuel in 2:", "trap index in 3:", "trap index in 3:")
	wantUnitWithFuel(t, "fn main; i = int -1; makecheck i; return", nil, "fuel in 0:", "fuel in 1:", "trap make in 2:", "trap make in 2:")
	wantUnitWithFuel(t, "fn main; x = int 0; print x; y = div x x; print x; return", nil, "fuel in 0:", "fuel in 1:", "fuel in 2: 0", "stuck in 3: 0", "stuck in 3: 0")
	wantUnitWithFuel(t, "fn main; i = int -1; l = make []int i; return", nil, "fuel in 0:", "fuel in 1:", "stuck in 2:", "stuck in 2:")
	wantUnitWithFuel(t, "fn main; x = int 1; if x a b; a :; print x; return; b :; return", nil, "fuel in 0:", "fuel in 1:", "fuel in 2:", "fuel in 3: 1", "exit in 4: 1")
	wantUnitWithFuel(t, "fn f a:int > int; print a; b = add a a; return b; fn main; x = int 1; y = call f x; print y; return", nil,
		"fuel in 0:", "fuel in 1:", "fuel in 2:", "fuel in 3: 1", "fuel in 4: 1", "fuel in 5: 1", "fuel in 6: 1 2", "exit in 7: 1 2", "exit in 7: 1 2")
	wantUnitWithFuel(t, "fn main; x = int 2; one = int 1; jump h x; h p:int :; print p; if p b o; b :; q = sub p one; jump h q; o :; return", nil,
		"fuel in 0:", "fuel in 1:", "fuel in 2:", "fuel in 3:", "fuel in 4: 2", "fuel in 5: 2", "fuel in 6: 2", "fuel in 7: 2", "fuel in 8: 2 1", "fuel in 9: 2 1", "fuel in 10: 2 1", "fuel in 11: 2 1", "fuel in 12: 2 1 0", "fuel in 13: 2 1 0", "exit in 14: 2 1 0", "exit in 14: 2 1 0")
}

// TestFuelForDeepCalls: that a call is too deep is told by its step.
func TestFuelForDeepCalls(t *testing.T) {
	u := unitOf("fn main; call main; return")
	for _, x := range []struct {
		fuel int
		want string
	}{{0, "fuel in 0:"}, {1, "fuel in 1:"}, {impl.MaxCalls - 1, "fuel in 59:"}, {impl.MaxCalls, "deep in 60:"}, {impl.MaxCalls + 1, "deep in 60:"}, {impl.MaxFuel, "deep in 60:"}} {
		if got := outcomeText(runUnit(t, u, nil, x.fuel)); got != x.want {
			t.Errorf("fuel %d: %s, want %s", x.fuel, got, x.want)
		}
	}
}

func TestEndsOfUnits(t *testing.T) {
	for _, x := range []struct {
		text string
		fuel int
		want impl.Outcome
	}{
		{"fn main; return", 50, impl.Outcome{End: impl.EndExit, Steps: 1}},
		{"fn main; x = int 4; print x; return", 50, impl.Outcome{End: impl.EndExit, Out: []impl.Item{{N: 4}}, Steps: 3}},
		{"fn main; x = float 1; print x; return", 50, impl.Outcome{End: impl.EndExit, Out: []impl.Item{{Kind: 1, N: 0x3FF0000000000000}}, Steps: 3}},
		{"fn main; x = int 4; print x; panic x", 50, impl.Outcome{End: impl.EndPanic, Code: 4, Out: []impl.Item{{N: 4}}, Steps: 3}},
		{"struct; fn main; x = int 4; print x; p = nil *0; nilcheck p; return", 50, impl.Outcome{End: impl.EndTrap, Code: impl.TrapNil, Out: []impl.Item{{N: 4}}, Steps: 4}},
		{"fn main; x = int 4; l = make []int x; indexcheck l x; return", 50, impl.Outcome{End: impl.EndTrap, Code: impl.TrapIndex, Steps: 3}},
		{"fn main; x = read; zerocheck x; return", 50, impl.Outcome{End: impl.EndTrap, Code: impl.TrapZero, Steps: 2}},
		{"fn main; x = int 101; makecheck x; return", 50, impl.Outcome{End: impl.EndTrap, Code: impl.TrapMake, Steps: 2}},
		{"fn main; x = int 1; print x; jump a; a :; jump a", 50, impl.Outcome{End: impl.EndFuel, Out: []impl.Item{{N: 1}}, Steps: 50}},
		{"fn f; call f; return; fn main; x = int 1; print x; call f; return", 500, impl.Outcome{End: impl.EndDeep, Out: []impl.Item{{N: 1}}, Steps: 2 + impl.MaxCalls}},
		{"fn main; x = int 0; print x; y = rem x x; return", 50, impl.Outcome{End: impl.EndStuck, Out: []impl.Item{{N: 0}}, Steps: 3}},
	} {
		if o := runUnit(t, unitOf(x.text), nil, x.fuel); !sameOutcome(o, x.want) {
			t.Errorf("%s: %+v\nwant %+v", x.text, o, x.want)
		}
		runWhole(t, unitOf(x.text), nil)
	}
}

// TestPanicCodes: the Code may be any int; it is told apart from a trap by the end alone.
func TestPanicCodes(t *testing.T) {
	for _, code := range []int{0, 1, -1, -9, impl.TrapNil, impl.TrapIndex, impl.TrapZero, impl.TrapMake, 7, math.MinInt, math.MaxInt} {
		want := impl.Outcome{End: impl.EndPanic, Code: code, Steps: 2}
		for _, text := range []string{fmt.Sprintf("fn main; x = int %d; panic x", code), "fn main; x = read; panic x"} {
			if o := runWhole(t, unitOf(text), []int{code}); !sameOutcome(o, want) {
				t.Errorf("%s: %+v", text, o)
			}
		}
	}
	// Nothing is done behind one, however deep in calls it stands.
	wantOutcomeOf(t, "fn f n:int > int; print n; if n a b; a :; one = int 1; m = sub n one; r = call f m; print r; return r; b :; c = int -5; panic c; fn main; x = int 2; y = call f x; print y; return", nil, "panic -5 in 16: 2 1 0")
}

func TestUnitsThatAreRefused(t *testing.T) {
	text := "fn main; x = read; print x; return"
	u := unitOf(text)
	for _, fuel := range []int{-1, -2, math.MinInt, impl.MaxFuel + 1, impl.MaxFuel + 2, math.MaxInt} {
		if o := runUnit(t, u, nil, fuel); !sameOutcome(o, impl.Outcome{}) {
			t.Errorf("fuel %d: %s", fuel, outcomeText(o))
		}
	}
	for _, fuel := range []int{3, 4, impl.MaxFuel - 1, impl.MaxFuel} {
		if o := runUnit(t, u, []int{5}, fuel); outcomeText(o) != "exit in 3: 5" {
			t.Errorf("fuel %d: %s", fuel, outcomeText(o))
		}
	}
	input := make([]int, impl.MaxInput)
	input[0] = 6
	if o := runUnit(t, u, input, 10); outcomeText(o) != "exit in 3: 6" {
		t.Errorf("%d numbers: %s", len(input), outcomeText(o))
	}
	for _, count := range []int{impl.MaxInput + 1, impl.MaxInput + 2, 5000} {
		for _, fuel := range []int{0, 10, impl.MaxFuel} {
			if o := runUnit(t, u, make([]int, count), fuel); !sameOutcome(o, impl.Outcome{}) {
				t.Errorf("%d numbers: %s", count, outcomeText(o))
			}
			if o := runUnit(t, unitOf("fn main; return"), make([]int, count), fuel); !sameOutcome(o, impl.Outcome{}) {
				t.Errorf("%d numbers, not read: %s", count, outcomeText(o))
			}
		}
	}
	for _, fuel := range []int{-1, 0, 1, 100, impl.MaxFuel, impl.MaxFuel + 1} {
		for what, none := range map[string]impl.Unit{"the zero unit": {}, "no block": {Fns: []impl.Fn{{}}}, "used ahead": unitOf("fn main; print x; x = read; return")} {
			if o := runUnit(t, none, nil, fuel); !sameOutcome(o, impl.Outcome{}) {
				t.Errorf("%s: %s", what, outcomeText(o))
			}
		}
	}
	// A function that is never called counts, too.
	if o := runUnit(t, unitOf("fn f a:float; panic a; fn main; return"), nil, 10); !sameOutcome(o, impl.Outcome{}) {
		t.Error(outcomeText(o))
	}
}

// TestAllInputIsRead in order, and 0 behind it; the room behind it is not read.
func TestAllInputIsRead(t *testing.T) {
	text := "fn main; one = int 1; n = int 102; jump h n; h k:int :; x = read; print x; m = sub k one; if m b o; b :; jump h m; o :; return"
	input := make([]int, impl.MaxInput)
	for i := range input {
		input[i] = i*i - 50
	}
	want := append(slices.Clone(input), 0, 0)
	o := runWhole(t, unitOf(text), input)
	if o.End != impl.EndExit || len(o.Out) != len(want) {
		t.Fatal(outcomeText(o))
	}
	for i, item := range o.Out {
		if item != (impl.Item{N: want[i]}) {
			t.Errorf("number %d: %v", i, item)
		}
	}
	three := unitOf("fn main; a = read; b = read; c = read; print c; print b; print a; return")
	for count, want := range []string{"0 0 0", "0 0 7", "0 8 7", "9 8 7"} {
		if o := impl.RunUnit(three, []int{7, 8, 9}[:count], 100); itemsText(o.Out) != want {
			t.Errorf("%d numbers: %s", count, outcomeText(o))
		}
	}
	// A call reads on where its caller was, and the caller where the call was.
	wantOutcomeOf(t, "fn f > int; x = read; return x; fn main; a = read; b = call f; c = read; d = call f; print a; print b; print c; print d; return", []int{1, 2, 3}, "exit in 13: 1 2 3 0")
}
