package tests

import (
	"fmt"
	"slices"
	"strings"
	"testing"

	"loop.example/g00306/impl"
)

// eval asks Eval, and fails if that writes into what it is given, hands out its memory, or tells what is no outcome.
func eval(t *testing.T, s impl.Source, input []int, fuel int) impl.Outcome {
	t.Helper()
	full, in := roomy(s), roomy(input)
	was := deepText(full) + deepText(in)
	o := impl.Eval(full, in, fuel)
	if deepText(full)+deepText(in) != was {
		t.Errorf("something was written into %s", was)
	}
	wantFresh(t, o, full)
	wantFresh(t, o, in)
	wantOutcome(t, o, fuel)
	return o
}

// wantOutcome fails unless an outcome's fields fit its end.
func wantOutcome(t *testing.T, o impl.Outcome, fuel int) {
	t.Helper()
	ok := o.Steps >= 0 && o.Steps <= fuel
	switch o.End {
	case impl.EndRefused:
		ok = sameOutcome(o, impl.Outcome{})
	case impl.EndExit, impl.EndDeep:
		ok = ok && o.Code == 0
	case impl.EndFuel:
		ok = o.Code == 0 && o.Steps == fuel
	case impl.EndTrap:
		ok = ok && o.Code >= impl.TrapNil && o.Code <= impl.TrapMake
	case impl.EndPanic:
	default:
		ok = false
	}
	for _, item := range o.Out {
		ok = ok && (item.Kind == 0 || item.Kind == 1 && impl.Bits(impl.Float(item.N)) == item.N)
	}
	if !ok {
		t.Errorf("no outcome with fuel %d: %+v", fuel, o)
	}
}

func sameOutcome(a impl.Outcome, b impl.Outcome) bool {
	return a.End == b.End && a.Code == b.Code && a.Steps == b.Steps && slices.Equal(a.Out, b.Out)
}

// wellTyped is the source of a text, with its types.
func wellTyped(t *testing.T, text string) impl.Source {
	t.Helper()
	s, code := impl.Check(sourceOf(t, text))
	if code != impl.TypeWell {
		t.Fatalf("%q is told %d", text, code)
	}
	return s
}

// mainText is a text with these statements in main, behind what else there is.
func mainText(heads string, stmts string) string {
	return heads + " func main ( ) { " + stmts + " }"
}

// itemsText writes what was put out: ints in decimal, floats by their bits, as a source would have them.
func itemsText(out []impl.Item) string {
	var list []string
	for _, item := range out {
		if item.Kind == 1 {
			list = append(list, fmt.Sprintf("0f%016x", uint64(item.N)))
		} else {
			list = append(list, fmt.Sprint(item.N))
		}
	}
	return strings.Join(list, " ")
}

// endText writes an end, with its code where it has one.
func endText(end int, code int) string {
	if end == impl.EndTrap {
		return "trap " + []string{"?", "nil", "index", "zero", "make"}[code]
	}
	if end == impl.EndPanic {
		return fmt.Sprint("panic ", code)
	}
	return []string{"refused", "exit", "", "", "fuel", "deep", "memory", "stuck"}[end]
}

// outcomeText writes an outcome: its end, its steps, and what was put out.
func outcomeText(o impl.Outcome) string {
	return strings.TrimSpace(fmt.Sprintf("%s in %d: %s", endText(o.End, o.Code), o.Steps, itemsText(o.Out)))
}

// plainText is outcomeText without the steps.
func plainText(o impl.Outcome) string {
	return strings.TrimSpace(fmt.Sprintf("%s: %s", endText(o.End, o.Code), itemsText(o.Out)))
}

// run does a source with all fuel there may be; and fails unless the model does the same, with any fuel.
func run(t *testing.T, s impl.Source, input []int) impl.Outcome {
	t.Helper()
	o := eval(t, s, input, impl.MaxFuel)
	wantModel(t, s, input, o)
	return o
}

// wantRun fails unless a text's source ends so, the steps aside.
func wantRun(t *testing.T, text string, input []int, want string) {
	t.Helper()
	if got := plainText(run(t, wellTyped(t, text), input)); got != want {
		t.Errorf("%s\nwith %v: %s\nwant: %s", text, input, got, want)
	}
}

// wantRuns is wantRun of statements in main, each with what is wanted, of one input.
func wantRuns(t *testing.T, heads string, input []int, wants [][2]string) {
	t.Helper()
	for _, want := range wants {
		wantRun(t, mainText(heads, want[0]), input, want[1])
	}
}

// wantStepsOf is wantRun with the steps.
func wantStepsOf(t *testing.T, text string, input []int, want string) {
	t.Helper()
	if got := outcomeText(run(t, wellTyped(t, text), input)); got != want {
		t.Errorf("%s\nwith %v: %s\nwant: %s", text, input, got, want)
	}
}

// wantStepsIn is wantStepsOf of statements in main.
func wantStepsIn(t *testing.T, heads string, input []int, wants [][2]string) {
	t.Helper()
	for _, want := range wants {
		wantStepsOf(t, mainText(heads, want[0]), input, want[1])
	}
}

// wantWithFuel fails unless a text's source ends so with each fuel from 0 on.
func wantWithFuel(t *testing.T, text string, input []int, wants ...string) {
	t.Helper()
	s := wellTyped(t, text)
	for fuel, want := range wants {
		if got := outcomeText(eval(t, s, input, fuel)); got != want {
			t.Errorf("%s\nwith fuel %d: %s\nwant: %s", text, fuel, got, want)
		}
	}
	run(t, s, input)
}
