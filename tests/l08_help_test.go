package tests

import (
	"slices"
	"strings"
	"testing"

	"loop.example/g00306/impl"
)

// optimize asks Optimize twice, and fails if that writes into what it is given, hands out memory that is shared, tells
// what may not be, or tells other than the second way does.
func optimize(t *testing.T, u impl.Unit, passes []int) (impl.Unit, bool) {
	t.Helper()
	full, list := roomy(u), roomy(passes)
	was := deepText(full) + deepText(list)
	o, ok := impl.Optimize(full, list)
	again, same := impl.Optimize(full, list)
	if deepText(full)+deepText(list) != was {
		t.Errorf("something was written into %v or\n%s", passes, showUnit(u))
	}
	wantFresh(t, o, full)
	wantFresh(t, o, again)
	wantFresh(t, o, list)
	if ok != same || unitText(o) != unitText(again) {
		t.Errorf("the first time, %v:\n%s\nthe second time, %v:\n%s", ok, unitText(o), same, unitText(again))
	}
	want, takes := secondOptimized(u, passes)
	if ok != takes || unitText(o) != unitText(want) {
		t.Fatalf("%v of\n%s\n%v:\n%s\nthe second way, %v:\n%s", passes, showUnit(u), ok, unitText(o), takes, unitText(want))
	}
	if ok {
		wantLess(t, u, o, passes)
		if fault := faultOf(o); fault != "" {
			t.Fatalf("%v of\n%s\nis no unit: %q\n%s", passes, unitText(u), fault, showUnit(o))
		}
	}
	return o, ok
}

// optimizeSoon is optimize of a unit that is well, without a look at the memory.
func optimizeSoon(t *testing.T, u impl.Unit, passes []int) (impl.Unit, bool) {
	t.Helper()
	o, ok := impl.Optimize(u, passes)
	if want := secondPasses(u, passes); !ok || unitText(o) != unitText(want) {
		t.Fatalf("%v of\n%s\n%v:\n%s\nthe second way:\n%s", passes, showUnit(u), ok, unitText(o), unitText(want))
	}
	wantLess(t, u, o, passes)
	return o, ok
}

// wantLess fails unless the second unit may be, has the heads of the first, and no more values and blocks.
func wantLess(t *testing.T, u impl.Unit, o impl.Unit, passes []int) {
	t.Helper()
	if !impl.UnitOk(o) {
		t.Fatalf("%v of\n%s\nis no unit:\n%s", passes, unitText(u), showUnit(o))
	}
	if len(o.Fns) != len(u.Fns) || o.Main != u.Main || !slices.EqualFunc(o.Structs, u.Structs, slices.Equal) {
		t.Fatalf("%d functions for %d, main %d for %d", len(o.Fns), len(u.Fns), o.Main, u.Main)
	}
	for n, f := range o.Fns {
		was := u.Fns[n]
		if !slices.Equal(f.Params, was.Params) || f.Res != was.Res || len(f.Vals) > len(was.Vals) || len(f.Blocks) > len(was.Blocks) {
			t.Fatalf("%v of\n%s\nis not less:\n%s", passes, unitText(u), unitText(o))
		}
	}
}

// wantSameDone fails unless the second unit does what the first does, in no more steps; where the first comes to no end,
// the second goes at least as far. What is stuck for want of a check may be not needed, and so go on when it is gone.
func wantSameDone(t *testing.T, u impl.Unit, o impl.Unit, passes []int, input []int, fuel int) (impl.Outcome, impl.Outcome) {
	t.Helper()
	want, got := impl.RunUnit(u, input, fuel), impl.RunUnit(o, input, fuel)
	ok := want.End != impl.EndRefused && got.End != impl.EndRefused
	if want.End == impl.EndFuel || want.End == impl.EndStuck && slices.Contains(passes, impl.PassDead) {
		ok = ok && len(got.Out) >= len(want.Out) && slices.Equal(got.Out[:len(want.Out)], want.Out)
	} else {
		ok = ok && got.End == want.End && got.Code == want.Code && slices.Equal(got.Out, want.Out) && got.Steps <= want.Steps
	}
	if !ok {
		t.Fatalf("%v of\n%s\nwith %v: %s\nis\n%s\nwhich: %s", passes, unitText(u), input, outcomeText(want), unitText(o), outcomeText(got))
	}
	return want, got
}

// passesOf reads passes by the first letters of their names.
func passesOf(letters string) []int {
	var list []int
	for _, letter := range letters {
		list = append(list, strings.IndexRune("fcsd", letter))
	}
	return list
}

// optimized is what passes make of a unit, which does the same with some inputs.
func optimized(t *testing.T, u impl.Unit, letters string) impl.Unit {
	t.Helper()
	o, ok := optimize(t, u, passesOf(letters))
	if !ok {
		t.Fatalf("%s refused of\n%s", letters, showUnit(u))
	}
	for _, input := range [][]int{nil, {1}, {0, 1, 2}, {3, 2, 1, 0, 5, 4, -1, 7}, {1, 1, 1, 1, 0, 1, 1}} {
		wantSameDone(t, u, o, passesOf(letters), input, 5000)
	}
	return o
}

// wantTrimmed fails unless passes make of the first function of a unit these blocks, a line each.
func wantTrimmed(t *testing.T, letters string, text string, want ...string) {
	t.Helper()
	if got := blocksText(optimized(t, unitOf(text), letters).Fns[0]); got != strings.Join(want, "\n") {
		t.Errorf("%s of %s:\n%s\nwant:\n%s", letters, text, got, strings.Join(want, "\n"))
	}
}

// wantUntrimmed fails unless a text's unit, which is tidy, stays as it is.
func wantUntrimmed(t *testing.T, letters string, text string) {
	t.Helper()
	u := unitOf(text)
	if got := unitText(optimized(t, u, letters)); got != unitText(u) {
		t.Errorf("%s of %s:\n%s\nwant what it was:\n%s", letters, text, got, unitText(u))
	}
}

// wantOneTrimmed is wantTrimmed of texts that come to one block, each with what is wanted of it, behind the same lines.
func wantOneTrimmed(t *testing.T, letters string, heads string, wants [][2]string) {
	t.Helper()
	for _, want := range wants {
		wantTrimmed(t, letters, heads+want[0], "b0; "+want[1])
	}
}
