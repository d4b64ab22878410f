package tests

import (
	"fmt"
	"math"
	"testing"

	"loop.example/g00306/impl"
)

// wantNotAlive fails unless Lives tells the zero value and false, and Across nothing at all.
func wantNotAlive(t *testing.T, what string, u impl.Unit, n int) {
	t.Helper()
	if l, ok := lives(t, u, n); ok || len(l.In) != 0 || len(l.Out) != 0 {
		t.Errorf("%s, function %d: %v, %s", what, n, ok, liveText(l))
	}
	if lists := across(t, u, n); len(lists) != 0 {
		t.Errorf("%s, function %d: across %v", what, n, lists)
	}
}

// noFunctions are numbers of none of so many functions.
func noFunctions(count int) []int {
	return []int{-1, -2, count, count + 1, impl.MaxFuncs, math.MinInt, math.MinInt + 1, math.MaxInt, 1 << 32, -1 << 32}
}

func TestFunctionsThatAreNone(t *testing.T) {
	for _, text := range append([]string{refusedText, "fn main; return"}, optTexts...) {
		u := unitOf(text)
		for _, n := range noFunctions(len(u.Fns)) {
			wantNotAlive(t, text, u, n)
		}
		for n := range u.Fns {
			if l, ok := lives(t, u, n); !ok || len(l.In) != len(u.Fns[n].Blocks) || len(across(t, u, n)) != len(u.Fns[n].Vals) {
				t.Errorf("function %d is refused of %s", n, text)
			}
		}
	}
}

// TestMostFunctionsAlive: as many as there may be, the first and the last one of them.
func TestMostFunctionsAlive(t *testing.T) {
	text := "fn main; return"
	for n := range impl.MaxFuncs - 1 {
		text += fmt.Sprintf("; fn f%d a:int; jump b; b :; print a; return", n)
	}
	u := unitOf(text)
	if l, ok := lives(t, u, 0); !ok || liveText(l) != "in [[]] out [[]]" {
		t.Error(ok, liveText(l))
	}
	if l, ok := lives(t, u, impl.MaxFuncs-1); !ok || liveText(l) != "in [[] [0]] out [[0] []]" {
		t.Error(ok, liveText(l))
	}
	wantNotAlive(t, "as many as there may be", u, impl.MaxFuncs)
	more := unitOf(text + "; fn more; return")
	for n := range impl.MaxFuncs + 2 {
		wantNotAlive(t, "one too many", more, n)
	}
}

// faultyUnits are units that may not be, by what is wrong with them; of some that lies in another function than the one
// that is asked for.
func faultyUnits() map[string]impl.Unit {
	units := map[string]impl.Unit{
		"the zero unit":   {},
		"too many values": {Fns: []impl.Fn{manyVals(impl.MaxVals + 1)}},
		"too many blocks": {Fns: []impl.Fn{linked(chain(impl.MaxBlocks + 1))}},
		"ahead":           unitOf("fn f; print x; x = read; return; fn main; y = read; return; fn g; return"),
		"behind":          unitOf("fn main; return; fn g; return; fn f > int; x = float 1; return x"),
		"in a struct":     edited("struct int; fn main; return; fn f; return; fn g; return", func(u *impl.Unit) { u.Structs[0][0] = tyPtr(1) }),
		"in Main":         edited("fn main; return; fn f; return; fn g; return", func(u *impl.Unit) { u.Main = 3 }),
	}
	for _, text := range noUnits {
		units[text] = unitOf(text)
	}
	return units
}

func TestUnitsThatAreNotAlive(t *testing.T) {
	for what, u := range faultyUnits() {
		for n := range 3 {
			wantNotAlive(t, what, u, n)
		}
	}
	for _, n := range noFunctions(0) {
		wantNotAlive(t, "the zero unit", impl.Unit{}, n)
		wantNotAlive(t, noUnits[0], unitOf(noUnits[0]), n)
	}
}

// TestUsedAheadOfWhereItIsMade: each place where a value may be used refuses it, where it is not made on all ways.
func TestUsedAheadOfWhereItIsMade(t *testing.T) {
	for _, text := range []string{
		"fn main; print x; x = read; return", "fn main; c = call one x; x = read; return; fn one a:int; return", "fn main; if x a b; a :; x = read; return; b :; return",
		"fn main; jump a x; a p:int :; x = read; return", "fn main; jump a; a :; print x; x = read; jump a", "fn main; c = read; if c a b; a :; x = read; jump d; b :; jump d; d :; panic x",
		"fn main; jump h; h :; c = read; if c b o; b :; x = read; jump h; o :; print x; return", "fn main; print p; x = read; jump a x; a p:int :; return",
	} {
		wantNotAlive(t, text, unitOf(text), 0)
		wantNotAlive(t, text, turnedNumbers(unitOf(text)), 0)
	}
}

// TestOneThingTurnedIsNotAlive: whatever number or list is another, it is refused just where it is no unit.
func TestOneThingTurnedIsNotAlive(t *testing.T) {
	t.Parallel()
	numbers := spread(60000)
	m := newMaker(numbers, 47)
	well, refused := 0, 0
	for round := range 80 {
		u := newUnitMaker(numbers, round*73+5).unit()
		if round%5 == 0 {
			u = unitOf(refusedText)
		}
		for range 14 {
			turned := turnOne(m, u)
			n := m.pick(len(u.Fns))
			l, ok := lives(t, turned, n)
			lists := across(t, turned, n)
			if ok {
				well++
			} else {
				refused++
			}
			if ok != (len(l.In) > 0) || !ok && len(lists) > 0 {
				t.Errorf("%v: %s, across %v", ok, liveText(l), lists)
			}
		}
	}
	if well < 100 || refused < 400 {
		t.Errorf("%d are well, %d are refused", well, refused)
	}
}
