package tests

import (
	"fmt"
	"slices"
	"strings"
	"testing"

	"loop.example/g00306/impl"
)

// setupOf is a setup with much fuel.
func setupOf(half int, stack int, oracle ...int) impl.Setup {
	return impl.Setup{Half: half, Stack: stack, Fuel: 5000, Oracle: oracle}
}

// roomySetup has room for whatever is not about room.
func roomySetup(input ...int) impl.Setup {
	return impl.Setup{Half: 1000, Stack: 1000, Fuel: 5000, Input: input}
}

func sameResult(a impl.Result, b impl.Result) bool {
	return a.End == b.End && a.Code == b.Code && a.Steps == b.Steps && a.Moves == b.Moves && a.Copies == b.Copies && slices.Equal(a.Out, b.Out)
}

// resultText writes a result: its end, its steps, collections and copies if there were some, and what was put out.
func resultText(r impl.Result) string {
	text := fmt.Sprintf("%s in %d", endText(r.End, r.Code), r.Steps)
	if r.Moves != 0 {
		text += fmt.Sprintf(", moves %d", r.Moves)
	}
	if r.Copies != 0 {
		text += fmt.Sprintf(", copies %d", r.Copies)
	}
	return strings.TrimSpace(text + ": " + itemsText(r.Out))
}

// showSetup writes a setup, its oracle last.
func showSetup(s impl.Setup) string {
	return fmt.Sprintf("half %d, stack %d, fuel %d, input %v, oracle %v", s.Half, s.Stack, s.Fuel, s.Input, s.Oracle)
}

// runImage asks RunImage twice, and fails if that writes into what it is given, hands out its memory, tells two things,
// or what is no result.
func runImage(t *testing.T, m impl.Image, s impl.Setup) impl.Result {
	t.Helper()
	full, in := roomy(m), roomy(s)
	was := deepText(full) + deepText(in)
	r := impl.RunImage(full, in)
	again := impl.RunImage(full, in)
	if !sameResult(r, again) {
		t.Errorf("the first time %s\nthe second time %s", resultText(r), resultText(again))
	}
	if deepText(full)+deepText(in) != was {
		t.Errorf("something was written into %s\nor %s", showImage(m), showSetup(s))
	}
	wantFresh(t, r, full)
	wantFresh(t, r, in)
	wantFresh(t, r, again)
	wantResultFits(t, r, s)
	return r
}

// wantResultFits fails unless a result's fields fit its end.
func wantResultFits(t *testing.T, r impl.Result, s impl.Setup) {
	t.Helper()
	ok := r.Steps >= 0 && r.Steps <= s.Fuel && r.Moves >= 0 && r.Copies >= 0
	switch r.End {
	case impl.EndRefused:
		ok = sameResult(r, impl.Result{})
	case impl.EndExit, impl.EndDeep, impl.EndMemory, impl.EndStuck:
		ok = ok && r.Code == 0 && r.Steps > 0
	case impl.EndFuel:
		ok = ok && r.Code == 0 && r.Steps == s.Fuel
	case impl.EndTrap:
		ok = ok && r.Code >= impl.TrapNil && r.Code <= impl.TrapMake
	case impl.EndPanic:
	default:
		ok = false
	}
	for _, item := range r.Out {
		ok = ok && (item.Kind == 0 || item.Kind == 1)
	}
	if !ok {
		t.Errorf("no result with %s: %+v", showSetup(s), r)
	}
}

// runMachine runs an image that is well; and fails unless the second machine does the same, with any fuel.
func runMachine(t *testing.T, m impl.Image, s impl.Setup) impl.Result {
	t.Helper()
	r, _ := runBoth(t, m, s)
	return r
}

// runBoth is runMachine that tells of the second machine, too.
func runBoth(t *testing.T, m impl.Image, s impl.Setup) (impl.Result, *secondMachine) {
	t.Helper()
	if fault := imageFault(m); fault != "" {
		t.Fatalf("no image: %s, of %s", fault, showImage(m))
	}
	r := runImage(t, m, s)
	second := secondRun(m, s)
	if want := second.with(s.Fuel); !sameResult(r, want) {
		t.Fatalf("%s\nwith %s: %s\nthe second machine: %s", showImage(m), showSetup(s), resultText(r), resultText(want))
	}
	for _, fuel := range someFuels(r.Steps) {
		less := s
		less.Fuel = min(fuel, s.Fuel)
		if got, want := impl.RunImage(m, less), second.with(less.Fuel); !sameResult(got, want) {
			t.Fatalf("%s\nwith %s: %s\nthe second machine: %s", showImage(m), showSetup(less), resultText(got), resultText(want))
		}
	}
	return r, second
}

// wantMachine fails unless a text's image ends so in a setup.
func wantMachine(t *testing.T, text string, s impl.Setup, want string) {
	t.Helper()
	if got := resultText(runMachine(t, machineOf(text), s)); got != want {
		t.Errorf("%s\nwith %s: %s\nwant: %s", text, showSetup(s), got, want)
	}
}

// wantMachines is wantMachine of texts, each with what is wanted, behind the same lines.
func wantMachines(t *testing.T, heads string, s impl.Setup, wants [][2]string) {
	t.Helper()
	for _, want := range wants {
		wantMachine(t, heads+"\n"+want[0], s, want[1])
	}
}

// wantMachineWithFuel fails unless a text's image ends so with each fuel from 0 on.
func wantMachineWithFuel(t *testing.T, text string, s impl.Setup, wants ...string) {
	t.Helper()
	m := machineOf(text)
	for fuel, want := range wants {
		s.Fuel = fuel
		if got := resultText(runImage(t, m, s)); got != want {
			t.Errorf("%s\nwith fuel %d: %s\nwant: %s", text, fuel, got, want)
		}
	}
	runMachine(t, m, s)
}
