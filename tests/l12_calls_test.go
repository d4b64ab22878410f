package tests

import (
	"fmt"
	"strings"
	"testing"

	"loop.example/g00306/impl"
)

// TestDeepFrames: MaxCalls frames may be there, the first one with them; one more is too deep, and is no safe place.
func TestDeepFrames(t *testing.T) {
	itself := "code main 3 0; call main; return"
	wantMachine(t, itself, setupOf(8, 187), "deep in 60:")
	wantMachine(t, itself, setupOf(8, 186), "deep in 60, copies 1:")
	oracle := make([]int, 61)
	oracle[59], oracle[60] = 2, 2
	wantMachine(t, itself, setupOf(8, 187, oracle...), "deep in 60:")
	oracle[58] = 2
	wantMachine(t, itself, setupOf(8, 187, oracle...), "deep in 60, copies 1:")
	wantMachine(t, "code main 3 0; call f; return; code f 3 0; call f; return", setupOf(8, 187), "deep in 60:")
	// There is no room for one more frame, either; but that is not asked where it is too deep.
	wantMachine(t, "code main 99 0; call main; return", setupOf(8, 1500), "deep in 60, copies 2:")
	wantMachine(t, "code main 100 0; call main; return", setupOf(8, 1500), "memory in 59, copies 2:")
	wantMachine(t, "code main 190 0; call main; return", setupOf(8, 1500), "memory in 31, copies 2:")
	wantMachine(t, "code main 198 0; call main; return", setupOf(8, 2000), "memory in 20, copies 1:")

	// So deep that it is just well.
	down := "code main 3 0; int r1 %d; pass r1 0; call f; return\ncode f 4 1; load r1 3; if r1 o; int r2 1; sub r1 r1 r2; pass r1 0; call f; o :; return"
	for _, x := range []struct {
		count int
		want  string
	}{{0, "exit in 7:"}, {1, "exit in 14:"}, {58, "exit in 413:"}, {59, "deep in 357:"}, {60, "deep in 357:"}} {
		wantMachine(t, fmt.Sprintf(down, x.count), setupOf(8, 300), x.want)
	}
	// Frames that are left again do not count.
	wantMachine(t, "code main 3 0; int r1 200; int r2 1; a :; call f; sub r1 r1 r2; if r1 o; jump a; o :; return\ncode f 3 0; return", setupOf(8, 16), "exit in 1002:")
}

// TestPassed: what was put is found in the callee's Params, at its place, whatever was put there before.
func TestPassed(t *testing.T) {
	four := "\ncode f 8 4; load r1 3; print r1; load r1 4; print r1; load r1 5; print r1; load r1 6; print r1; load r1 7; print r1; return"
	wantMachines(t, four, roomySetup(), [][2]string{
		{"code main 3 0; int r1 5; pass r1 0; int r1 6; pass r1 1; int r1 7; pass r1 2; int r1 8; pass r1 3; call f; return", "exit in 21: 5 6 7 8 0"},
		{"code main 30 0; int r1 5; pass r1 3; int r1 6; pass r1 1; int r1 7; pass r1 0; int r1 8; pass r1 2; call f; return", "exit in 21: 7 6 8 5 0"},
		{"code main 3 0; int r1 5; pass r1 0; int r1 6; pass r1 0; call f; return", "exit in 17: 6 0 0 0 0"},
		{"code main 3 0; call f; return", "exit in 13: 0 0 0 0 0"},
		// What was passed for one call is there for the next one, too, as long as nobody writes there.
		{"code main 3 0; int r1 5; pass r1 2; call f; int r1 6; pass r1 3; call f; return", "exit in 29: 0 0 5 0 0 0 0 5 6 0"},
	})
	// Of what was passed behind the callee's Params nothing is left.
	for params := range 5 {
		text := "code main 3 0; int r1 5; pass r1 0; pass r1 1; pass r1 2; pass r1 3; call f; return\n" +
			fmt.Sprintf("code f 7 %d; load r1 3; print r1; load r1 4; print r1; load r1 5; print r1; load r1 6; print r1; return", params)
		want := strings.Repeat(" 5", params) + strings.Repeat(" 0", 4-params)
		wantMachine(t, text, roomySetup(), "exit in 16:"+want)
	}
	// What is put does not reach into the own frame.
	wantMachine(t, "code main 5 0; int r1 5; pass r1 0; pass r1 1; pass r1 2; pass r1 3; load r2 3; print r2; load r2 4; print r2; return", roomySetup(), "exit in 10: 0 0")
}

// TestCalleeWords are 0, also where an earlier frame left something; but Params that were not passed are what is there.
func TestCalleeWords(t *testing.T) {
	leave := "code f 8 0; int r1 71; store r1 3; int r1 72; store r1 4; int r1 73; store r1 5; int r1 74; store r1 6; int r1 75; store r1 7; return\n"
	for params := range 5 {
		text := "code main 3 0; call f; call g; return\n" + leave +
			fmt.Sprintf("code g 8 %d; load r1 3; print r1; load r1 4; print r1; load r1 5; print r1; load r1 6; print r1; load r1 7; print r1; return", params)
		want := ""
		for n := range 5 {
			if n < params {
				want += fmt.Sprint(" ", 71+n)
			} else {
				want += " 0"
			}
		}
		wantMachine(t, text, roomySetup(), "exit in 25:"+want)
	}
	// Noughts are written up to the end of the frame, not behind it: what was passed ahead of that is there still.
	for frame := impl.Head; frame <= 8; frame++ {
		text := "code main 3 0; int r1 5; pass r1 0; int r1 6; pass r1 1; int r1 7; pass r1 2; int r1 8; pass r1 3; call h; call f; return\n" +
			fmt.Sprintf("code h %d 0; return\n", frame) +
			"code f 7 4; load r1 3; print r1; load r1 4; print r1; load r1 5; print r1; load r1 6; print r1; return"
		want := ""
		for n := range 4 {
			want += fmt.Sprint(" ", []int{5 + n, 0}[modelTruth(impl.Head+n < frame)])
		}
		wantMachine(t, text, roomySetup(), "exit in 21:"+want)
	}
	// A frame that is entered once more begins with noughts.
	wantMachine(t, "code main 3 0; call f; call f; return\ncode f 5 0; load r1 3; print r1; load r1 4; print r1; int r1 9; store r1 3; store r1 4; return", roomySetup(), "exit in 19: 0 0 0 0")
}

// TestCallersWords: whatever a callee does, the caller's frame stays, and goes on right behind its call.
func TestCallersWords(t *testing.T) {
	wantMachine(t, "code main 6 0; int r1 1; store r1 3; int r1 2; store r1 4; int r1 3; store r1 5; call f; print r9; load r1 3; print r1; load r1 4; print r1; load r1 5; print r1; return\n"+
		"code f 6 0; int r1 11; store r1 3; store r1 4; store r1 5; call g; int r9 8; load r1 4; print r1; return\n"+
		"code g 300 0; int r1 12; store r1 3; store r1 299; pass r1 3; return", roomySetup(), "exit in 29: 11 8 1 2 3")
	// Calls one behind the other, from several places of one code.
	wantMachine(t, "code main 3 0; int r1 1; call f; int r1 2; call f; int r1 3; call f; return\ncode f 3 0; print r1; return", roomySetup(), "exit in 13: 1 2 3")
	// Registers are all of theirs together.
	wantMachine(t, "code main 3 0; int r5 1; int r0 2; call f; print r5; print r0; print r15; return\ncode f 3 0; print r5; int r5 6; int r15 7; return", roomySetup(), "exit in 11: 1 6 2 7")
}

// TestResults: r0 is what was returned, whatever register that was in.
func TestResults(t *testing.T) {
	for n := range impl.AllRegs {
		text := fmt.Sprintf("code main 3 0; int r0 1; call f; print r0; return\ncode f 3 0; int r%d 44; result r%d", n, n)
		wantMachine(t, text, roomySetup(), "exit in 6: 44")
	}
	// The sum of 1 .. 20, each part held in the frame.
	wantMachine(t, "code main 3 0; int r1 20; pass r1 0; call f; print r0; return\n"+
		"code f 5 1; load r1 3; if r1 o; int r2 1; sub r1 r1 r2; pass r1 0; call f; load r1 3; add r0 r0 r1; result r0; o :; int r0 0; result r0", roomySetup(), "exit in 189: 210")
}

// TestEachCode is called by its number, main among them, wherever that stands.
func TestEachCode(t *testing.T) {
	text := ""
	for n := range impl.MaxFuncs - 1 {
		text += fmt.Sprintf("code f%d 3 0; int r1 %d; print r1; return\n", n, 50+n)
	}
	for main := range impl.MaxFuncs {
		codes := strings.SplitAfter(text, "return\n")[:impl.MaxFuncs-1]
		whole := strings.Join(codes[:main], "") + "code main 3 0; call f6; call f0; call f3; call f5; return\n" + strings.Join(codes[main:], "")
		wantMachine(t, whole, roomySetup(), "exit in 17: 56 50 53 55")
	}
}

// leftHeads: f at 4 calls g, whose head is left behind where k, called by h, has its Params: so these are the place of f's
// frame, where f goes on, the code g, and the first word behind the head.
const leftHeads = "code main 3 0; call f; call h; return\n" +
	"code f 7 0; int r9 0; call g; return\n" +
	"code g 4 0; int r1 66; store r1 3; return\n" +
	"code h 4 0; call k; return\n" +
	"code k 7 4; load r1 3; print r1; load r1 4; print r1; load r1 5; print r1; load r1 6; print r1; return"

// TestHeads: what is written stays, so heads of frames that are left can be seen.
func TestHeads(t *testing.T) {
	wantMachine(t, leftHeads, setupOf(8, 21), "exit in 20: 4 2 2 66")
	wantMachine(t, strings.Replace(leftHeads, "int r9 0; call g", "call g; int r9 0", 1), setupOf(8, 100), "exit in 20: 4 1 2 66")
	wantMachine(t, strings.Replace(leftHeads, "code main 3", "code main 50", 1), setupOf(8, 100), "exit in 20: 51 2 2 66")
	// The same codes in another order.
	lines := strings.Split(leftHeads, "\n")
	wantMachine(t, strings.Join([]string{lines[3], lines[1], lines[4], lines[0], lines[2]}, "\n"), setupOf(8, 100), "exit in 20: 4 2 4 66")
}
