package tests

import (
	"fmt"
	"testing"

	"loop.example/g00306/impl"
)

// doms asks Doms, and fails if that writes into the function or hands out its memory.
func doms(t *testing.T, f impl.Fn) []int {
	t.Helper()
	full := roomy(f)
	was := deepText(full)
	list := impl.Doms(full)
	if deepText(full) != was {
		t.Errorf("something was written into %+v", f)
	}
	wantFresh(t, list, full)
	return list
}

// unitOk asks UnitOk, and fails if that writes into the unit.
func unitOk(t *testing.T, u impl.Unit) bool {
	t.Helper()
	full := roomy(u)
	was := deepText(full)
	ok := impl.UnitOk(full)
	if deepText(full) != was {
		t.Errorf("something was written into %+v", u)
	}
	return ok
}

// runUnit asks RunUnit, and fails if that writes into what it is given, hands out its memory, or tells what is no outcome.
func runUnit(t *testing.T, u impl.Unit, input []int, fuel int) impl.Outcome {
	t.Helper()
	full, in := roomy(u), roomy(input)
	was := deepText(full) + deepText(in)
	o := impl.RunUnit(full, in, fuel)
	if deepText(full)+deepText(in) != was {
		t.Errorf("something was written into %+v or %v", u, input)
	}
	wantFresh(t, o, full)
	wantFresh(t, o, in)
	wantUnitOutcome(t, o, fuel)
	return o
}

// wantUnitOutcome is wantOutcome, with one end more: it has no Code, and came with a step.
func wantUnitOutcome(t *testing.T, o impl.Outcome, fuel int) {
	t.Helper()
	if o.End == impl.EndStuck {
		o.End = impl.EndDeep
		if o.Steps == 0 {
			t.Error("stuck without a step")
		}
	}
	wantOutcome(t, o, fuel)
}

// wantUnit fails unless UnitOk and the second way both say so of a unit, and RunUnit refuses it where they say no.
func wantUnit(t *testing.T, what string, u impl.Unit, want bool) {
	t.Helper()
	if got := unitOk(t, u); got != want {
		t.Errorf("%s: %v, want %v", what, got, want)
	}
	if fault := faultOf(u); (fault == "") != want {
		t.Errorf("%s: the second way finds %q", what, fault)
	}
	if o := runUnit(t, u, nil, 50); (o.End != impl.EndRefused) != want || !want && !sameOutcome(o, impl.Outcome{}) {
		t.Errorf("%s: run, %s", what, outcomeText(o))
	}
}

// wantUnits is wantUnit of texts, with some lines ahead of each.
func wantUnits(t *testing.T, heads string, want bool, texts ...string) {
	t.Helper()
	for _, text := range texts {
		wantUnit(t, text, unitOf(heads+"\n"+text), want)
	}
}

// runWhole does a unit with all fuel there may be; and fails unless the model does the same, with any fuel.
func runWhole(t *testing.T, u impl.Unit, input []int) impl.Outcome {
	t.Helper()
	if fault := faultOf(u); fault != "" {
		t.Fatalf("no unit: %s, of %+v", fault, u)
	}
	o := runUnit(t, u, input, impl.MaxFuel)
	wantUnitModel(t, u, input, o)
	return o
}

// wantOutcomeOf fails unless a text's unit ends so, with its steps.
func wantOutcomeOf(t *testing.T, text string, input []int, want string) {
	t.Helper()
	if got := outcomeText(runWhole(t, unitOf(text), input)); got != want {
		t.Errorf("%s\nwith %v: %s\nwant: %s", text, input, got, want)
	}
}

// wantOutcomes is wantOutcomeOf of texts, each with what is wanted, behind the same lines.
func wantOutcomes(t *testing.T, heads string, input []int, wants [][2]string) {
	t.Helper()
	for _, want := range wants {
		wantOutcomeOf(t, heads+"\n"+want[0], input, want[1])
	}
}

// wantUnitWithFuel fails unless a text's unit ends so with each fuel from 0 on.
func wantUnitWithFuel(t *testing.T, text string, input []int, wants ...string) {
	t.Helper()
	u := unitOf(text)
	for fuel, want := range wants {
		if got := outcomeText(runUnit(t, u, input, fuel)); got != want {
			t.Errorf("%s\nwith fuel %d: %s\nwant: %s", text, fuel, got, want)
		}
	}
	runWhole(t, u, input)
}

// showUnit writes a unit so that a fault in it can be found.
func showUnit(u impl.Unit) string {
	text := fmt.Sprintln("structs", u.Structs, "main", u.Main)
	for n, f := range u.Fns {
		text += fmt.Sprintln("fn", n, f.Params, f.Res)
		for b, block := range f.Blocks {
			text += fmt.Sprintln("  block", b, block.Params, "ends by", block.Term, block.Args, block.Out)
			for _, v := range block.Code {
				text += fmt.Sprintf("    %d: %+v\n", v, f.Vals[v])
			}
		}
	}
	return text
}
