package tests

import (
	"fmt"
	"testing"
)

// In these tests a half has 40 words; the first one is that from 12000 on, the other one from 12040 on.

// node is a struct that leads to two others and has a number, and takes 4 words.
const node = "struct * * .\nstruct\n"

// TestMovedOnce: an object that is met twice, by slots or by fields, lies once behind a collection.
func TestMovedOnce(t *testing.T) {
	wantMachines(t, node+"code main 8 0", setupOf(40, 100, 0, 0, 1), [][2]string{
		// The same place at two slots.
		{"new r1 0; store r1 3; new r2 0; store r1 4; new r3 1 @ 3 4; load r4 3; print r4; load r4 4; print r4; print r3; return", "exit in 11, moves 1: 12040 12040 12044"},
		// By a slot and by a field.
		{"new r1 0; store r1 3; new r2 0; putf r1 r2 0; store r2 4; new r3 1 @ 3 4; load r4 3; print r4; getf r5 r4 0; print r5; load r4 4; print r4; print r3; return", "exit in 14, moves 1: 12040 12044 12044 12048"},
		// By two fields of one object.
		{"new r1 0; store r1 3; new r2 0; putf r1 r2 0; putf r1 r2 1; new r3 1 @ 3; load r4 3; getf r5 r4 0; print r5; getf r5 r4 1; print r5; print r3; return", "exit in 13, moves 1: 12044 12044 12048"},
	})
	wantMachine(t, node+"code main 8 0\nint r6 2; ptrs r1 r6; store r1 3; new r2 0; int r6 0; pute r1 r6 r2; int r6 1; pute r1 r6 r2; new r3 1 @ 3; load r4 3; gete r5 r4 r6; print r5; int r6 0; gete r5 r4 r6; print r5; print r3; return",
		setupOf(40, 100, 0, 0, 1), "exit in 17, moves 1: 12043 12043 12047")
}

// TestRings: an object that leads to itself, and two that lead to each other.
func TestRings(t *testing.T) {
	wantMachines(t, node+"code main 8 0", setupOf(40, 100, 0, 0, 1), [][2]string{
		{"new r1 0; store r1 3; new r2 0; putf r1 r1 0; putf r1 r1 1; new r3 1 @ 3; load r4 3; print r4; getf r5 r4 0; print r5; getf r5 r4 1; print r5; print r3; return", "exit in 14, moves 1: 12040 12040 12040 12044"},
		{"new r1 0; new r2 0; putf r1 r2 1; putf r2 r1 0; store r2 5; new r3 1 @ 5; load r4 5; print r4; getf r5 r4 0; print r5; getf r6 r5 1; print r6; print r3; return", "exit in 14, moves 1: 12040 12044 12040 12048"},
		{"new r1 0; new r2 0; putf r1 r2 1; putf r2 r1 0; store r2 5; store r1 6; new r3 1 @ 5 6; load r4 5; print r4; getf r5 r4 0; print r5; load r6 6; print r6; print r3; return", "exit in 15, moves 1: 12040 12044 12044 12048"},
		// Two that lead to each other, but to which nothing leads, are left behind.
		{"new r1 0; new r2 0; putf r1 r2 0; putf r2 r1 0; new r3 1; print r3; return", "exit in 7, moves 1: 12040"},
	})
	wantMachine(t, "code main 8 0\nint r6 1; int r7 0; ptrs r1 r6; pute r1 r7 r1; store r1 3; ptrs r2 r6 @ 3; load r1 3; print r1; gete r3 r1 r7; print r3; print r2; return", setupOf(40, 100, 0, 1), "exit in 12, moves 1: 12040 12040 12042")
}

// TestOrderOfMoves: slots in order, then object by object in the order in which these were moved, fields in order.
func TestOrderOfMoves(t *testing.T) {
	// Seven objects, a to g, of 4 words: a leads to d and c, b to c and e, c to g, d to f.
	seven := node + "code main 12 0\n" +
		"new r1 0; new r2 0; new r3 0; new r4 0; new r5 0; new r6 0; new r7 0\n" +
		"putf r1 r4 0; putf r1 r3 1; putf r2 r3 0; putf r2 r5 1; putf r3 r7 0; putf r4 r6 1\n" +
		"int r8 100; putf r1 r8 2; int r8 101; putf r2 r8 2; int r8 102; putf r3 r8 2; int r8 103; putf r4 r8 2; int r8 104; putf r5 r8 2; int r8 105; putf r6 r8 2; int r8 106; putf r7 r8 2\n"
	// Behind the collection all are found by their places, whose numbers are put out.
	look := "; int r9 12040; int r10 4; a :; getf r11 r9 2; print r11; add r9 r9 r10; same r12 r9 r15; if r12 a; return"
	for _, x := range []struct {
		stores, slots, want string
	}{
		{"store r1 3; store r2 4", "3 4", "100 101 103 102 104 105 106"},
		{"store r1 4; store r2 3", "3 4", "101 100 102 104 103 106 105"},
		{"store r1 3; store r2 4; store r7 5", "3 4 5", "100 101 106 103 102 104 105"},
		{"store r1 3; store r2 4; store r7 5", "3 5", "100 106 103 102 105"},
		{"store r1 3", "3", "100 103 102 105 106"},
		{"store r2 11", "3 11", "101 102 104 106"},
		{"store r6 3; store r5 4; store r4 7", "3 4 7", "105 104 103"},
		{"store r7 3; store r6 4; store r5 5; store r4 6; store r3 7; store r2 8; store r1 9", "3 4 5 6 7 8 9", "106 105 104 103 102 101 100"},
	} {
		text := seven + x.stores + "; new r15 1 @ " + x.slots + look
		s := setupOf(40, 100, 0, 0, 0, 0, 0, 0, 0, 1)
		r := runMachine(t, machineOf(text), s)
		if got := itemsText(r.Out); got != x.want || r.Moves != 1 || endText(r.End, r.Code) != "exit" {
			t.Errorf("%s @ %s: %s, want %s", x.stores, x.slots, resultText(r), x.want)
		}
	}
}

// TestOrderOfFrames: the last frame comes first, then its caller, up to the first one; each by the map where it stands.
func TestOrderOfFrames(t *testing.T) {
	text := "struct .\nstruct\n" +
		"code main 5 0; new r1 0; int r2 100; putf r1 r2 0; store r1 3; new r1 0 @ 3; int r2 101; putf r1 r2 0; store r1 4; call f @ %s; load r1 3; print r1; load r1 4; print r1; return\n" +
		"code f 5 0; new r1 0; int r2 102; putf r1 r2 0; store r1 3; new r1 0 @ 3; int r2 103; putf r1 r2 0; store r1 4; call g @ %s; load r1 3; print r1; load r1 4; print r1; return\n" +
		"code g 5 0; new r1 0; int r2 104; putf r1 r2 0; store r1 3; new r1 0 @ 3; int r2 105; putf r1 r2 0; store r1 4; new r1 1 @ %s; print r1; load r1 3; print r1; load r1 4; print r1; return\n"
	for _, x := range []struct {
		main, f, g, want string
	}{
		{"3 4", "3 4", "3 4", "12052 12040 12042 12044 12046 12048 12050"},
		{"3", "3 4", "4", "12048 12008 12040 12042 12044 12046 12002"},
		{"4", "", "3", "12044 12040 12010 12004 12006 12000 12042"},
		{"", "", "", "12040 12008 12010 12004 12006 12000 12002"},
		{"3 4", "", "3 4", "12048 12040 12042 12004 12006 12044 12046"},
	} {
		r := runMachine(t, machineOf(fmt.Sprintf(text, x.main, x.f, x.g)), setupOf(40, 100, 0, 0, 0, 0, 0, 0, 0, 0, 1))
		if got := itemsText(r.Out); got != x.want || r.Moves != 1 || endText(r.End, r.Code) != "exit" {
			t.Errorf("%+v: %s", x, resultText(r))
		}
	}
}

// TestMapOfEachCall: of a caller the map of the call at which it stands counts, not that of another one.
func TestMapOfEachCall(t *testing.T) {
	text := "struct .\ncode main 5 0; new r1 0; store r1 3; new r1 0 @ 3; store r1 4; call f @ 3; load r1 3; print r1; load r1 4; print r1; int r1 0; store r1 4; call f; call f @ 3 4; load r1 3; print r1; return\n" +
		"code f 3 0; new r2 0; print r2; return"
	// The first call finds one object at slot 3; at the third one, slot 3 holds a place that is none any more.
	wantMachine(t, text, setupOf(40, 100, 0, 0, 0, 1), "exit in 25, moves 1: 12042 12040 12002 12044 12046 12040")
	wantMachine(t, text, setupOf(40, 100, 0, 0, 0, 1, 0, 1), "exit in 25, moves 2: 12042 12040 12002 12000 12002 12040")
	wantMachine(t, text, setupOf(40, 100, 0, 0, 0, 1, 0, 1, 0, 1), "stuck in 20, moves 3: 12042 12040 12002 12000")
	wantMachine(t, text, setupOf(40, 100, 0, 0, 0, 1, 0, 0, 0, 1), "exit in 25, moves 2: 12042 12040 12002 12044 12002 12000")
}

// TestRecursiveFrames: each frame of one code has its own words, and stands at the same call.
func TestRecursiveFrames(t *testing.T) {
	text := "struct * .\ncode main 4 0; int r1 5; pass r1 0; call f; return\n" +
		"code f 6 1; load r1 3; if r1 last; new r2 0; putf r2 r1 1; store r2 4; int r3 1; sub r1 r1 r3; pass r1 0; call f @ 4; load r2 4; print r2; getf r3 r2 1; print r3; return; last :; new r4 0; print r4; return"
	wantMachine(t, text, setupOf(40, 100), "exit in 79: 12015 12012 1 12009 2 12006 3 12003 4 12000 5")
	// Safe places: a call, then of each of five frames an object and a call, then the last object.
	wantMachine(t, text, setupOf(40, 100, 0, 0, 0, 0, 0, 0, 0, 0, 0, 0, 0, 1), "exit in 79, moves 1: 12055 12040 1 12043 2 12046 3 12049 4 12052 5")
	wantMachine(t, text, setupOf(40, 100, 0, 0, 0, 1, 0, 0, 0, 1), "exit in 79, moves 2: 12015 12012 1 12009 2 12000 3 12003 4 12006 5")
}

// TestListsOfNumbers: ints and floats that look like places stay as they are, and so do fields that are no pointers.
func TestListsOfNumbers(t *testing.T) {
	for _, list := range []string{"ints", "floats"} {
		text := "struct\ncode main 5 0; int r1 3; new r9 0; " + list + " r2 r1; store r2 3; int r4 0; int r5 12000; pute r2 r4 r5; int r4 1; pute r2 r4 r2; int r4 2; int r5 12040; pute r2 r4 r5; new r6 0 @ 3\n" +
			"load r2 3; print r2; int r4 0; gete r7 r2 r4; print r7; int r4 1; gete r7 r2 r4; print r7; int r4 2; gete r7 r2 r4; print r7; print r6; len r7 r2; print r7; return"
		wantMachine(t, text, setupOf(40, 100, 0, 0, 1), "exit in 28, moves 1: 12040 12000 12001 12040 12044 3")
	}
	wantMachine(t, "struct . * .\ncode main 5 0; new r1 0; store r1 3; putf r1 r1 0; putf r1 r1 1; putf r1 r1 2; new r2 0 @ 3; load r1 3; getf r3 r1 0; print r3; getf r3 r1 1; print r3; getf r3 r1 2; print r3; return", setupOf(40, 100, 0, 1), "exit in 14, moves 1: 12000 12040 12000")
}

// TestFlagsOfFields: each field by itself is followed or not, of each struct by its own flags.
func TestFlagsOfFields(t *testing.T) {
	for flags := range 32 {
		fields, want := "", ""
		for n := range 5 {
			if flags>>n&1 == 1 {
				fields += " *"
				want += " 12046"
			} else {
				fields += " ."
				want += " 12000"
			}
		}
		after := " 12047"
		if flags == 0 {
			after = " 12046"
		}
		text := "struct\nstruct * * * * *\nstruct" + fields + "\nstruct . . . . .\ncode main 5 0; new r1 0; new r2 2; store r2 4\n" +
			"putf r2 r1 0; putf r2 r1 1; putf r2 r1 2; putf r2 r1 3; putf r2 r1 4; new r3 0 @ 4; load r2 4\n" +
			"getf r4 r2 0; print r4; getf r4 r2 1; print r4; getf r4 r2 2; print r4; getf r4 r2 3; print r4; getf r4 r2 4; print r4; print r3; return"
		wantMachine(t, text, setupOf(40, 100, 0, 0, 1), "exit in 22, moves 1:"+want+after)
	}
}

// TestWhatStays: slots that no map names, registers, and what was passed already.
func TestWhatStays(t *testing.T) {
	wantMachines(t, "struct\ncode f 8 1; load r1 3; print r1; return\ncode main 6 0", setupOf(40, 100, 0, 0, 1), [][2]string{
		{"new r1 0; new r2 0; store r2 3; store r2 4; store r2 5; new r3 0 @ 4; load r4 3; print r4; load r4 4; print r4; load r4 5; print r4; print r1; print r2; print r3; return", "exit in 16, moves 1: 12001 12040 12001 12000 12001 12041"},
		{"new r1 0; new r2 0; store r2 3; pass r2 0; new r3 0 @ 3; call f; print r2; print r3; return", "exit in 12, moves 1: 12001 12001 12041"},
	})
	// The register that the new object is put into is the only one that is another.
	text, want := "struct\ncode main 4 0\n", ""
	for n := range 16 {
		text += fmt.Sprintf("int r%d 12000\n", n)
	}
	text += "new r7 0; store r7 3; new r8 0 @ 3\n"
	for n := range 16 {
		text += fmt.Sprintf("print r%d\n", n)
		want += map[bool]string{true: " 12041", false: " 12000"}[n == 8]
	}
	wantMachine(t, text+"return", setupOf(40, 100, 0, 1), "exit in 36, moves 1:"+want)
}

// TestParamsInMaps: Params are words of the frame as others are.
func TestParamsInMaps(t *testing.T) {
	text := "struct .\ncode main 5 0; new r1 0; int r2 7; putf r1 r2 0; store r1 3; pass r1 0; pass r1 2; call f @ 3; load r1 3; print r1; return\n" +
		"code f 7 3; new r9 0 @ 3 5; print r9; load r1 3; print r1; load r1 4; print r1; load r1 5; getf r2 r1 0; print r1; print r2; return"
	wantMachine(t, text, setupOf(40, 100, 0, 0, 1), "exit in 21, moves 1: 12042 12040 0 12040 7 12040")
}

// TestLongChains: each object leads to the next; all are moved behind each other, however many.
func TestLongChains(t *testing.T) {
	text := "struct * .\ncode main 5 0; int r1 %d; a :; new r2 0 @ 3; load r3 3; putf r2 r3 0; putf r2 r1 1; store r2 3; int r4 1; sub r1 r1 r4; if r1 b; jump a; b :\n" +
		"load r2 3; c :; print r2; getf r5 r2 1; print r5; getf r2 r2 0; if r2 d; jump c; d :; return"
	for _, count := range []int{1, 2, 13, 30} {
		oracle := make([]int, count)
		oracle[count-1] = 1
		r := runMachine(t, machineOf(fmt.Sprintf(text, count)), setupOf(3*count+8, 16, oracle...))
		want := ""
		for n := range count {
			// The last one is new; it lies behind all others, which lie in order.
			place := 12000 + 3*count + 8 + 3*(n-1)
			if n == 0 {
				place = 12000 + 3*count + 8 + 3*(count-1)
			}
			want += fmt.Sprint(" ", place, " ", n+1)
		}
		if got := " " + itemsText(r.Out); got != want || r.Moves != 1 {
			t.Errorf("%d: %s\nwant%s", count, resultText(r), want)
		}
	}
	// As many as a half holds, over and over.
	r := runMachine(t, machineOf("struct * .\ncode main 5 0; a :; new r2 0 @ 3; load r3 3; putf r2 r3 0; store r2 3; jump a"), setupOf(4000, 16))
	if resultText(r) != "fuel in 5000:" {
		t.Error(resultText(r))
	}
	r = runMachine(t, machineOf("struct * .\ncode main 5 0; a :; new r2 0 @ 3; load r3 3; putf r2 r3 0; store r2 3; jump a"), setupOf(400, 16))
	if resultText(r) != "memory in 666, moves 1:" {
		t.Error(resultText(r))
	}
}

// TestManyCollections: to and fro, at each object, all that is kept stays.
func TestManyCollections(t *testing.T) {
	text := "struct * .\ncode main 6 0; new r1 0; store r1 3; int r2 55; putf r1 r2 1; new r1 0 @ 3; store r1 4; load r2 3; putf r2 r1 0; putf r1 r2 0; int r9 20; a :; store r9 5; new r3 0 @ 3 4; load r9 5; int r8 1; sub r9 r9 r8; if r9 b; jump a; b :\n" +
		"load r1 3; getf r4 r1 1; print r4; getf r4 r1 0; load r5 4; same r6 r4 r5; print r6; getf r6 r5 0; same r6 r6 r1; print r6; print r1; return"
	ones := make([]int, 22)
	for n := range ones {
		ones[n] = 1
	}
	for count := range 23 {
		r := runMachine(t, machineOf(text), setupOf(100, 100, ones[:count]...))
		want := fmt.Sprint("55 1 1 ", 12000+100*(count%2))
		if got := itemsText(r.Out); got != want || r.Moves != count || r.Steps != 161 {
			t.Errorf("%d: %s", count, resultText(r))
		}
	}
	// A half for both and one more: a collection at each object from the second one on.
	if got := resultText(runMachine(t, machineOf(text), setupOf(9, 100))); got != "exit in 161, moves 19: 55 1 1 12009" {
		t.Error(got)
	}
}
