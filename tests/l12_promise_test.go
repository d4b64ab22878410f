package tests

import (
	"slices"
	"testing"

	"loop.example/g00306/impl"
)

// wantMachineGoesOn fails unless, with more fuel, what was put out goes on, what had ended ends alike, and no more steps
// than that are made.
func wantMachineGoesOn(t *testing.T, m impl.Image, s impl.Setup, fuels []int) {
	t.Helper()
	last := impl.Result{End: impl.EndFuel}
	for _, fuel := range fuels {
		s.Fuel = fuel
		r := impl.RunImage(m, s)
		if r.End < impl.EndExit || r.End > impl.EndStuck || r.Steps > fuel || r.Steps < last.Steps || r.End == impl.EndFuel && r.Steps != fuel {
			t.Fatalf("%s\nwith %s: %s\nwith less: %s", showImage(m), showSetup(s), resultText(r), resultText(last))
		}
		if len(r.Out) < len(last.Out) || !slices.Equal(r.Out[:len(last.Out)], last.Out) || r.Moves < last.Moves || r.Copies < last.Copies {
			t.Fatalf("%s\nwith %s: %s\nwith less: %s", showImage(m), showSetup(s), resultText(r), resultText(last))
		}
		if last.End != impl.EndFuel && !sameResult(r, last) {
			t.Fatalf("%s\nwith %s: %s\nit had ended: %s", showImage(m), showSetup(s), resultText(r), resultText(last))
		}
		last = r
	}
}

// machineFuels are all from 0 up to some behind the end, where that is not far; else promiseFuels, none of them more than
// some thousands.
func machineFuels(steps int) []int {
	if steps <= 400 {
		return append(upTo(steps+4), 2*steps+7, 8000)
	}
	return slices.DeleteFunc(promiseFuels(steps), func(fuel int) bool { return fuel > 8000 })
}

// machineTally counts what became of images.
type machineTally struct {
	count, steps, moves, copies, items int
	ends, ops                          map[string]int
}

// add runs an image, holds it against the second machine, and counts what it did.
func (c *machineTally) add(t *testing.T, m impl.Image, s impl.Setup) {
	t.Helper()
	if c.ends == nil {
		c.ends, c.ops = map[string]int{}, map[string]int{}
	}
	r, second := runBoth(t, m, s)
	wantMachineGoesOn(t, m, s, machineFuels(r.Steps))
	c.count++
	c.steps, c.moves, c.copies, c.items = c.steps+r.Steps, c.moves+r.Moves, c.copies+r.Copies, c.items+len(r.Out)
	c.ends[endKind(impl.Outcome{End: r.End, Code: r.Code})]++
	for word, form := range moForms {
		if second.ops[form.op] > 0 {
			c.ops[word] += second.ops[form.op]
		}
	}
}

// want fails unless all ops were done, so many things were moved, and all these ends were met.
func (c *machineTally) want(t *testing.T, moves int, copies int, ends ...string) {
	t.Helper()
	t.Logf("%d images, %d steps, %d moves, %d copies, %d items, %v", c.count, c.steps, c.moves, c.copies, c.items, c.ends)
	if len(c.ops) != len(moForms) {
		t.Errorf("only these were done: %v", c.ops)
	}
	if c.moves < moves || c.copies < copies || c.items < c.count {
		t.Errorf("%d moves, %d copies, %d items", c.moves, c.copies, c.items)
	}
	for _, end := range ends {
		if c.ends[end] == 0 {
			t.Errorf("none ends with %s: %v", end, c.ends)
		}
	}
}

// TestMadeMachines: images in which all is as it should be, so that they go on long.
func TestMadeMachines(t *testing.T) {
	t.Parallel()
	numbers := spread(90000)
	var c machineTally
	for round := range 1200 {
		m := newMachineMaker(numbers, round*211, 0)
		c.add(t, m.image(), m.setup())
	}
	c.want(t, 1500, 800, "exit", "panic", "trap nil", "trap index", "trap zero", "trap make", "fuel", "deep", "memory", "stuck")
	if c.ends["stuck"] > c.count/5 || c.ends["exit"] < c.count/5 {
		t.Errorf("%v", c.ends)
	}
}

// TestWildMachines: among what is well stand instructions of any sort, and maps lack slots.
func TestWildMachines(t *testing.T) {
	t.Parallel()
	numbers := spread(90000)
	var c machineTally
	for round := range 1200 {
		m := newMachineMaker(numbers, round*223+3, 8+round%50)
		c.add(t, m.image(), m.setup())
	}
	c.want(t, 600, 300, "exit", "panic", "trap nil", "trap index", "trap zero", "trap make", "fuel", "deep", "memory", "stuck")
}

// TestTurnedMachines: images in which one number or one list is another, and that still may be.
func TestTurnedMachines(t *testing.T) {
	t.Parallel()
	numbers := spread(90000)
	turns := newMaker(numbers, 11)
	var c machineTally
	for round := range 1200 {
		m := newMachineMaker(numbers, round*193+7, 0)
		image, setup := m.image(), m.setup()
		for range 1 + round%3 {
			if turned := turnOne(turns, image); impl.ImageOk(turned) {
				image = turned
			}
		}
		c.add(t, image, setup)
	}
	c.want(t, 1500, 800, "exit", "panic", "trap nil", "trap index", "trap zero", "trap make", "fuel", "deep", "memory", "stuck")
}

// TestImagesOfAllSorts: any instructions at all, with all ops.
func TestImagesOfAllSorts(t *testing.T) {
	t.Parallel()
	numbers := spread(90000)
	var c machineTally
	for round := range 1500 {
		m := newImageMaker(numbers, round*179+5)
		image := m.image()
		c.add(t, image, (&machineMaker{maker: m.maker}).setup())
	}
	c.want(t, 20, 20, "exit", "panic", "trap nil", "trap index", "fuel", "deep", "stuck")
}

// TestHandMachinesGoOn: images written by hand, with each fuel up to their own steps and some more.
func TestHandMachinesGoOn(t *testing.T) {
	texts := []string{
		leftHeads,
		"code main 3 0; a :; print r1; int r2 1; add r1 r1 r2; jump a",
		"struct * .\ncode main 5 0; a :; new r2 0 @ 3; load r3 3; putf r2 r3 0; store r2 3; print r2; jump a",
		"struct * .\ncode main 5 0; a :; new r2 0 @ 3; print r2; store r2 3; jump a",
		"code main 3 0; print r1; call main; return",
		"code main 3 0; int r1 9; print r1; a :; if r1 o; int r2 1; sub r1 r1 r2; print r1; jump a; o :; div r1 r1 r1; return",
		"code main 4 0; read r1; print r1; ints r2 r1 @ 3; print r2; len r3 r2; print r3",
	}
	for _, text := range texts {
		m := machineOf(text)
		for _, s := range []impl.Setup{setupOf(8, 16), setupOf(20, 40, 1, 2, 1, 2, 1, 2), setupOf(4000, 2000, 0, 2, 1), {Half: 9, Stack: 17, Fuel: 5000, Input: []int{101}}, {Half: 9, Stack: 17, Fuel: 5000, Input: []int{8}}} {
			r := runMachine(t, m, s)
			fuels := append(upTo(min(r.Steps, 150)+4), r.Steps-1, r.Steps, r.Steps+1, r.Steps+2, 2*r.Steps+7, impl.MaxFuel/2, impl.MaxFuel-1, impl.MaxFuel)
			slices.Sort(fuels)
			wantMachineGoesOn(t, m, s, slices.DeleteFunc(fuels, func(fuel int) bool { return fuel < 0 }))
		}
	}
}

// TestResultsShareNothing: what is handed in may be changed behind the call, and what is handed back, too.
func TestResultsShareNothing(t *testing.T) {
	m, s := roomy(machineOf(leftHeads)), roomy(setupOf(8, 30, 2, 0, 2))
	s.Input = []int{4, 5}
	first, second := impl.RunImage(m, s), impl.RunImage(m, s)
	was := resultText(first)
	for n := range first.Out {
		first.Out[n] = impl.Item{Kind: 9, N: 9}
	}
	scrub(m)
	clear(s.Input)
	clear(s.Oracle)
	if resultText(second) != was {
		t.Errorf("%s, not %s", resultText(second), was)
	}
	if again := impl.RunImage(machineOf(leftHeads), setupOf(8, 30, 2, 0, 2)); resultText(again) != was {
		t.Errorf("%s, not %s", resultText(again), was)
	}
}

// TestOraclesOfMadeMachines: where all is as it should be and no place is put out, nobody notices what is moved when.
func TestOraclesOfMadeMachines(t *testing.T) {
	t.Parallel()
	text := "struct * * .\ncode main 8 0; int r1 6; pass r1 0; call f; store r0 3; int r9 3; store r9 4; a :; load r1 3; pass r1 0; call g @ 3; print r0; new r5 0 @ 3; load r9 4; int r8 1; sub r9 r9 r8; store r9 4; if r9 o; jump a; o :; return\n" +
		// f makes a tree so deep.
		"code f 7 1; load r1 3; if r1 none; int r2 1; sub r1 r1 r2; pass r1 0; call f; store r0 4; load r1 3; int r2 2; div r1 r1 r2; pass r1 0; call f @ 4; store r0 5; new r5 0 @ 4 5; load r6 4; putf r5 r6 0; load r6 5; putf r5 r6 1; load r1 3; putf r5 r1 2; result r5; none :; int r0 0; result r0\n" +
		// g adds all of its numbers.
		"code g 6 1; load r1 3; if r1 none; getf r2 r1 0; pass r2 0; call g @ 3; store r0 4; load r1 3; getf r2 r1 1; pass r2 0; call g @ 3; load r4 4; add r0 r0 r4; load r1 3; getf r2 r1 2; add r0 r0 r2; result r0; none :; int r0 0; result r0"
	m := machineOf(text)
	plain := runMachine(t, m, setupOf(4000, 2000))
	if plain.End != impl.EndExit || len(plain.Out) != 3 || plain.Out[0] != plain.Out[2] || plain.Out[0].N < 10 {
		t.Fatal(resultText(plain))
	}
	pick := newMaker(spread(9000), 1)
	for round := range 300 {
		var oracle []int
		for range 200 {
			oracle = append(oracle, []int{0, 1, 2, pick.pick(3)}[round%4])
		}
		r := impl.RunImage(m, setupOf(120+round, 16+round%50, oracle...))
		if r.End != impl.EndExit || r.Steps != plain.Steps || !slices.Equal(r.Out, plain.Out) {
			t.Fatalf("round %d: %s, not %s", round, resultText(r), resultText(plain))
		}
	}
}
