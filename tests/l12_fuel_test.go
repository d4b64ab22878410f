package tests

import (
	"fmt"
	"testing"

	"loop.example/g00306/impl"
)

// TestMachineFuel: with each fuel from 0 on, what was done so far.
func TestMachineFuel(t *testing.T) {
	wantMachineWithFuel(t, "code main 3 0; return", roomySetup(), "fuel in 0:", "exit in 1:", "exit in 1:", "exit in 1:")
	wantMachineWithFuel(t, "code main 3 0; read r1; print r1; printf r1; panic r1", roomySetup(6), "fuel in 0:", "fuel in 1:", "fuel in 2: 6", "fuel in 3: 6 0f0000000000000006", "panic 6 in 4: 6 0f0000000000000006", "panic 6 in 4: 6 0f0000000000000006")
	wantMachineWithFuel(t, "code main 3 0; print r1; nil r1; return", roomySetup(), "fuel in 0:", "fuel in 1: 0", "trap nil in 2: 0", "trap nil in 2: 0")
	wantMachineWithFuel(t, "code main 3 0; zero r1; return", roomySetup(), "fuel in 0:", "trap zero in 1:", "trap zero in 1:")
	wantMachineWithFuel(t, "code main 3 0; index r1 r1; return", roomySetup(), "fuel in 0:", "trap index in 1:", "trap index in 1:")
	wantMachineWithFuel(t, "code main 3 0; int r1 -1; size r1; return", roomySetup(), "fuel in 0:", "fuel in 1:", "trap make in 2:", "trap make in 2:")
	wantMachineWithFuel(t, "code main 3 0; div r1 r1 r1; return", roomySetup(), "fuel in 0:", "stuck in 1:", "stuck in 1:")
	wantMachineWithFuel(t, "code main 3 0; int r1 8; ints r2 r1; return", setupOf(8, 16), "fuel in 0:", "fuel in 1:", "memory in 2, moves 1:", "memory in 2, moves 1:")
	wantMachineWithFuel(t, "code main 3 0; call f; return; code f 3 0; print r1; result r1", roomySetup(), "fuel in 0:", "fuel in 1:", "fuel in 2: 0", "fuel in 3: 0", "exit in 4: 0", "exit in 4: 0")
	wantMachineWithFuel(t, "code main 3 0; a :; print r1; jump a", roomySetup(), "fuel in 0:", "fuel in 1: 0", "fuel in 2: 0", "fuel in 3: 0 0", "fuel in 4: 0 0", "fuel in 5: 0 0 0")
}

// TestFuelForMoves: collections and copies are counted as far as steps were made.
func TestFuelForMoves(t *testing.T) {
	text := "struct . . .\ncode main 3 0; new r1 0; print r1; call f; new r1 0; print r1; return\ncode f 9 0; new r1 0; new r1 0; return"
	wantMachineWithFuel(t, text, setupOf(8, 16), "fuel in 0:", "fuel in 1:", "fuel in 2: 12000", "fuel in 3, copies 1: 12000", "fuel in 4, copies 1: 12000", "fuel in 5, moves 1, copies 1: 12000", "fuel in 6, moves 1, copies 1: 12000", "fuel in 7, moves 1, copies 1: 12000", "fuel in 8, moves 1, copies 1: 12000 12012", "exit in 9, moves 1, copies 1: 12000 12012", "exit in 9, moves 1, copies 1: 12000 12012")
	wantMachineWithFuel(t, text, setupOf(8, 16, 1, 2, 1, 1), "fuel in 0:", "fuel in 1, moves 1:", "fuel in 2, moves 1: 12008", "fuel in 3, moves 1, copies 2: 12008", "fuel in 4, moves 2, copies 2: 12008", "fuel in 5, moves 3, copies 2: 12008", "fuel in 6, moves 3, copies 2: 12008", "fuel in 7, moves 3, copies 2: 12008", "fuel in 8, moves 3, copies 2: 12008 12012", "exit in 9, moves 3, copies 2: 12008 12012")
}

// TestFuelForDeep: that a call is too deep is told by its step.
func TestFuelForDeep(t *testing.T) {
	for fuel, want := range map[int]string{0: "fuel in 0:", 1: "fuel in 1:", 59: "fuel in 59:", 60: "deep in 60:", 61: "deep in 60:", impl.MaxFuel: "deep in 60:"} {
		s := setupOf(8, 200)
		s.Fuel = fuel
		wantMachine(t, "code main 3 0; call main; return", s, want)
	}
}

// TestAllFuel: what never ends takes all of it, whatever it does.
func TestAllFuel(t *testing.T) {
	for _, x := range []struct {
		what, text    string
		half, stack   int
		moves, copies int
	}{
		{"a jump to itself", "code main 3 0; a :; jump a", 8, 16, 0, 0},
		{"objects that nobody keeps", "struct . . .\ncode main 3 0; a :; new r1 0; jump a", 8, 16, 49999, 0},
		{"one object is kept", "struct * . .\ncode main 4 0; new r1 0; store r1 3; a :; new r1 0 @ 3; jump a", 8, 16, 99998, 0},
		{"calls", "code main 3 0; a :; call f; jump a; code f 9 0; return", 8, 16, 0, 1},
	} {
		for _, fuel := range []int{impl.MaxFuel - 1, impl.MaxFuel} {
			s := impl.Setup{Half: x.half, Stack: x.stack, Fuel: fuel}
			r := runMachine(t, machineOf(x.text), s)
			if r.End != impl.EndFuel || r.Steps != fuel || fuel == impl.MaxFuel && (r.Moves != x.moves || r.Copies != x.copies) {
				t.Errorf("%s: %s", x.what, resultText(r))
			}
		}
	}
}

// TestGreatCollections: as many as there may be of the greatest ones, all in all in no long time.
func TestGreatCollections(t *testing.T) {
	// Lists of 100 pointers fill the half but for some words; each of their elements is met each time.
	text := "struct\nstruct .\ncode main 900 0; int r2 100; new r5 0; store r5 3\n"
	slots := " 3"
	for n := range 39 {
		text += fmt.Sprintf("ptrs r1 r2 @%s; store r1 %d\nint r3 99; load r5 3; a%d :; pute r1 r3 r5; if r3 b%d; int r4 1; sub r3 r3 r4; jump a%d; b%d :\n", slots, 4+n, n, n, n, n)
		slots += fmt.Sprint(" ", 4+n)
	}
	text += "int r2 57; ints r1 r2 @" + slots + "; store r1 50\n"
	m := machineOf(text + "c :; new r1 0 @" + slots + " 50; new r1 0 @" + slots + " 50; jump c")
	s := impl.Setup{Half: impl.MaxHalf, Stack: impl.MaxStack, Fuel: impl.MaxFuel}
	if r := impl.RunImage(m, s); r.End != impl.EndFuel || r.Steps != impl.MaxFuel || r.Moves < 50000 {
		t.Error(resultText(r))
	}
}
