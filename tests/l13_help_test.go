package tests

import (
	"fmt"
	"slices"
	"strings"
	"testing"

	"loop.example/g00306/impl"
)

// emit asks Emit twice, and fails if that writes into the unit, hands out memory that is shared, tells two things, or
// other than the second way does.
func emit(t *testing.T, u impl.Unit) (impl.Image, bool) {
	t.Helper()
	full := roomy(u)
	was := deepText(full)
	m, ok := impl.Emit(full)
	again, same := impl.Emit(full)
	if deepText(full) != was {
		t.Errorf("something was written into\n%s", showUnit(u))
	}
	wantFresh(t, m, full)
	wantFresh(t, m, again)
	if ok != same || !sameImage(m, again) {
		t.Errorf("the first time, %v:\n%s\nthe second time, %v:\n%s", ok, moText(m), same, moText(again))
	}
	wantEmitSecond(t, u, m, ok)
	return m, ok
}

// wantEmitSecond fails unless what is told of a unit is what the second way tells, and may be.
func wantEmitSecond(t *testing.T, u impl.Unit, m impl.Image, ok bool) {
	t.Helper()
	want, fits := secondEmit(u)
	if ok != fits || !sameImage(m, want) {
		t.Fatalf("%v:\n%s\nthe second way, %v:\n%s\nof\n%s", ok, moText(m), fits, moText(want), showUnit(u))
	}
	if impl.ImageOk(m) != ok {
		t.Fatalf("told with %v, but ImageOk says otherwise:\n%s", ok, moText(m))
	}
}

// moText writes an image as machineOf reads it; a place where a jump leads to is named p and its number.
func moText(m impl.Image) string {
	if size := len(secondBytes(m)); size > 20000 {
		return fmt.Sprint("an image of ", size, " bytes")
	}
	var text strings.Builder
	for _, fields := range m.Structs {
		text.WriteString("struct")
		for _, isObject := range fields {
			text.WriteString(map[bool]string{true: " *", false: " ."}[isObject])
		}
		text.WriteString("\n")
	}
	for n, c := range m.Codes {
		fmt.Fprintf(&text, "code %s %d %d", moName(m, n), c.Frame, c.Params)
		for pc, i := range c.Ins {
			if slices.ContainsFunc(c.Ins, func(j impl.Ins) bool { return (j.Op == impl.MoJump || j.Op == impl.MoIf) && j.N == pc }) {
				fmt.Fprintf(&text, "; p%d :", pc)
			}
			text.WriteString("; " + insText(m, i))
			for _, safe := range c.Maps {
				if safe.Pc == pc && len(safe.Slots) > 0 {
					text.WriteString(" @ " + strings.Trim(fmt.Sprint(safe.Slots), "[]"))
				}
			}
		}
		text.WriteString("\n")
	}
	return text.String()
}

// moName is the name of a code; only that of Main says something.
func moName(m impl.Image, code int) string {
	if code == m.Main {
		return "main"
	}
	return fmt.Sprint("c", code)
}

// insText writes an instruction, with all registers that its word does not have where they are not 0.
func insText(m impl.Image, i impl.Ins) string {
	for word, form := range moForms {
		if form.op != i.Op || !strings.ContainsAny(form.words, "NKL") && form.n != i.N {
			continue
		}
		text := word
		for _, letter := range form.words {
			switch letter {
			case 'A':
				text += fmt.Sprint(" r", i.A)
			case 'B':
				text += fmt.Sprint(" r", i.B)
			case 'C':
				text += fmt.Sprint(" r", i.C)
			case 'N':
				text += fmt.Sprint(" ", i.N)
			case 'K':
				text += " " + moName(m, i.N)
			case 'L':
				text += fmt.Sprint(" p", i.N)
			}
		}
		for at, letter := range "ABC" {
			if reg := []int{i.A, i.B, i.C}[at]; reg != 0 && !strings.ContainsRune(form.words, letter) {
				text += fmt.Sprintf(" (%c is %d)", letter, reg)
			}
		}
		return text
	}
	return fmt.Sprintf("%+v", i)
}

// emitted is the image of a text's unit, which must be taken.
func emitted(t *testing.T, text string) impl.Image {
	t.Helper()
	m, ok := emit(t, unitOf(text))
	if !ok {
		t.Fatalf("refused: %s", text)
	}
	return m
}

// wantEmitted fails unless the image of a text's unit is that of another text, and does what the unit does.
func wantEmitted(t *testing.T, text string, want string) {
	t.Helper()
	m := emitted(t, text)
	if !sameImage(m, machineOf(want)) {
		t.Errorf("%s\nis emitted as\n%swant:\n%s", text, moText(m), moText(machineOf(want)))
	}
	for _, input := range someInputs() {
		wantImageDoes(t, unitOf(text), m, input)
	}
}

func someInputs() [][]int {
	return [][]int{nil, {1}, {0, 1, 2}, {3, 2, 1, 0, 5, 4, -1, 7}, {1, 1, 1, 1, 0, 1, 1}}
}

// What ends main in these tests, and stands behind it to be called.
const (
	emptyFn   = "; return; fn none; return"
	emptyCode = "; return\ncode none 3 0; return"
)

// wantMain is wantEmitted of a function main, which ends by return, with one more behind it that does nothing. Both texts
// have their structs ahead.
func wantMain(t *testing.T, structs [2]string, body string, frame int, code string) {
	t.Helper()
	wantEmitted(t, structs[0]+"fn main; "+body+emptyFn, fmt.Sprintf("%scode main %d 0; %s%s", structs[1], frame, code, emptyCode))
}

// mostPerStep is how many instructions there are at most for a step of a unit: of a call those that get and pass four Args,
// that make the result, and the callee's that make its parameters; of an edge four for each of its Args.
func mostPerStep(u impl.Unit) int {
	most := 4*2 + 1 + 2 + 4*2
	for _, f := range u.Fns {
		for _, block := range f.Blocks {
			for _, e := range block.Out {
				most = max(most, 4*len(e.Args)+1)
			}
		}
	}
	return most
}

// wantRunAlike fails unless the image of a unit does in a setup what the unit does, or ends for want of memory or fuel
// where it has put out the beginning of that. As each step of a unit is at least one of the image, with the same fuel the
// unit goes at least as far.
func wantRunAlike(t *testing.T, u impl.Unit, m impl.Image, s impl.Setup) (impl.Outcome, impl.Result) {
	t.Helper()
	o, r := impl.RunUnit(u, s.Input, s.Fuel), impl.RunImage(m, s)
	ok := r.End != impl.EndRefused && len(r.Out) <= len(o.Out) && slices.Equal(r.Out, o.Out[:len(r.Out)])
	switch r.End {
	case impl.EndMemory:
	case impl.EndFuel:
		ok = ok && (o.End == impl.EndFuel || o.Steps*mostPerStep(u) >= s.Fuel)
	default:
		ok = ok && r.End == o.End && r.Code == o.Code && len(r.Out) == len(o.Out) && r.Steps >= o.Steps
	}
	if !ok {
		t.Fatalf("%s\nwith %v: %s\nis emitted as\n%swhich, with %s: %s", showUnit(u), s.Input, outcomeText(o), moText(m), showSetup(s), resultText(r))
	}
	return o, r
}

// emitSetups are setups with halves and stacks small and great, without an oracle and with some that move much.
func emitSetups(m *maker, input []int, fuel int) []impl.Setup {
	mixed := make([]int, 300)
	for n := range mixed {
		mixed[n] = m.pick(3)
	}
	ones, twos := slices.Repeat([]int{1}, impl.MaxOracle), slices.Repeat([]int{2}, impl.MaxOracle)
	list := []impl.Setup{
		{Half: impl.MaxHalf, Stack: impl.MaxStack},
		{Half: impl.MinHalf, Stack: impl.MinStack},
		{Half: impl.MaxHalf, Stack: impl.MinStack, Oracle: ones},
		{Half: impl.MaxHalf, Stack: impl.MinStack + m.pick(60), Oracle: twos},
		{Half: impl.MinHalf + m.pick(50), Stack: impl.MaxStack, Oracle: ones},
		{Half: impl.MinHalf + m.pick(100), Stack: impl.MinStack + m.pick(200), Oracle: mixed},
		{Half: impl.MaxHalf, Stack: 300 + m.pick(300), Oracle: slices.Repeat([]int{1, 2, 2, 1, 0}, 400)},
	}
	for n := range list {
		list[n].Input, list[n].Fuel = input, fuel
	}
	return list
}

// wantImageDoes fails unless the image of a unit does what the unit does, in setups of all kinds; and with all of them in
// as many steps, where it ends by itself.
func wantImageDoes(t *testing.T, u impl.Unit, m impl.Image, input []int) (impl.Outcome, []impl.Result) {
	t.Helper()
	var o impl.Outcome
	var list []impl.Result
	steps := -1
	for _, s := range emitSetups(newMaker(spread(400), len(input)), input, 6000) {
		var r impl.Result
		o, r = wantRunAlike(t, u, m, s)
		list = append(list, r)
		if r.End == impl.EndMemory || r.End == impl.EndFuel {
			continue
		}
		if steps >= 0 && r.Steps != steps {
			t.Fatalf("%d steps, with others %d\n%s", r.Steps, steps, moText(m))
		}
		steps = r.Steps
	}
	return o, list
}
