package tests

import (
	"fmt"
	"slices"
	"testing"

	"loop.example/g00306/impl"
)

// wantNoHomes fails unless Homes tells nothing and false, and HomesOk false, whatever the homes.
func wantNoHomes(t *testing.T, what string, u impl.Unit, n int, lists ...[]int) {
	t.Helper()
	if list, ok := homes(t, u, n); ok || len(list) != 0 {
		t.Errorf("%s, function %d: %v, %v", what, n, ok, list)
	}
	for _, list := range append(lists, nil, []int{0}, []int{-1}, []int{0, -1}, []int{0, 1, 2}, slices.Repeat([]int{impl.Regs}, impl.MaxVals+1)) {
		if homesOk(t, u, n, list) {
			t.Errorf("%s, function %d: %v is taken", what, n, list)
		}
	}
}

func TestFunctionsWithoutHomes(t *testing.T) {
	for _, text := range append([]string{refusedText, "fn main; return", "fn main; x = read; print x; return"}, homeTexts...) {
		u := unitOf(text)
		var told [][]int
		for n := range u.Fns {
			list, ok := homes(t, u, n)
			if !ok || len(list) != len(u.Fns[n].Vals) {
				t.Errorf("function %d is refused of %s", n, text)
			}
			told = append(told, list)
		}
		for _, n := range noFunctions(len(u.Fns)) {
			wantNoHomes(t, text, u, n, told...)
		}
	}
}

// TestMostFunctionsHomes: as many as there may be, the first and the last one of them.
func TestMostFunctionsHomes(t *testing.T) {
	text := "fn main; return"
	for n := range impl.MaxFuncs - 1 {
		text += fmt.Sprintf("; fn f%d a:int b:int; call main; print b; return", n)
	}
	u := unitOf(text)
	if list, ok := homes(t, u, 0); !ok || len(list) != 0 {
		t.Error(ok, list)
	}
	if list, ok := homes(t, u, impl.MaxFuncs-1); !ok || fmt.Sprint(list) != "[0 6 -1 -1]" {
		t.Error(ok, list)
	}
	wantNoHomes(t, "as many as there may be", u, impl.MaxFuncs, []int{0, 6, -1, -1})
	more := unitOf(text + "; fn more; return")
	for n := range impl.MaxFuncs + 2 {
		wantNoHomes(t, "one too many", more, n, []int{0, 6, -1, -1})
	}
}

func TestUnitsWithoutHomes(t *testing.T) {
	for what, u := range faultyUnits() {
		for n := range 3 {
			wantNoHomes(t, what, u, n)
		}
	}
	for _, n := range noFunctions(0) {
		wantNoHomes(t, "the zero unit", impl.Unit{}, n)
		wantNoHomes(t, noUnits[0], unitOf(noUnits[0]), n)
	}
	// Each has a home that it could have, but they are too many values.
	many := impl.Unit{Fns: []impl.Fn{manyVals(impl.MaxVals + 1)}}
	wantNoHomes(t, "too many values", many, 0, make([]int, impl.MaxVals+1))
}

// TestOneThingTurnedHomes: whatever number or list is another, it is refused just where it is no unit.
func TestOneThingTurnedHomes(t *testing.T) {
	t.Parallel()
	numbers := spread(60000)
	m := newMaker(numbers, 71)
	well, refused := 0, 0
	for round := range 70 {
		u := newUnitMaker(numbers, round*73+11).unit()
		if round%4 == 0 {
			u = unitOf(append(homeTexts, refusedText)[m.pick(len(homeTexts)+1)])
		}
		for range 12 {
			turned := turnOne(m, u)
			n := m.pick(len(u.Fns))
			told, _ := impl.Homes(u, n)
			list, ok := homes(t, turned, n)
			if homesOk(t, turned, n, told) && !impl.UnitOk(turned) {
				t.Error("taken of what is no unit")
			}
			if ok {
				well++
			} else {
				refused++
			}
			if !ok && len(list) > 0 {
				t.Errorf("refused, but told %v", list)
			}
		}
	}
	if well < 100 || refused < 400 {
		t.Errorf("%d are well, %d are refused", well, refused)
	}
}
