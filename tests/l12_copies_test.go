package tests

import (
	"fmt"
	"math"
	"strings"
	"testing"

	"loop.example/g00306/impl"
)

// TestFramesThatFit: behind a frame there must be words for the head and the Params of another one.
func TestFramesThatFit(t *testing.T) {
	text := "code main 3 0; call f; return\ncode f %d 0; return"
	for _, x := range []struct {
		stack, frame, copies int
	}{
		{16, 3, 0}, {16, 6, 0}, {16, 7, 1}, {16, 22, 1}, {16, 23, 1}, {16, 1000, 1}, {17, 7, 0}, {17, 8, 1}, {100, 90, 0}, {100, 91, 1}, {100, 1000, 1}, {1009, 1000, 1}, {1010, 1000, 0}, {2000, 1000, 0},
	} {
		want := "exit in 3:"
		if x.copies > 0 {
			want = fmt.Sprintf("exit in 3, copies %d:", x.copies)
		}
		wantMachine(t, fmt.Sprintf(text, x.frame), setupOf(8, x.stack), want)
	}
	// The words that are passed count even where the callee has no Params, or has them all.
	wantMachine(t, "code main 3 0; call f; return\ncode f 7 4; return", setupOf(8, 16), "exit in 3, copies 1:")
	wantMachine(t, "code main 3 0; call f; return\ncode f 7 4; return", setupOf(8, 17), "exit in 3:")
}

// TestDoubled: the size of the new region can be told by what fits into it.
func TestDoubled(t *testing.T) {
	text := "code main 3 0; call f; return\ncode f %d 0; call g; return\ncode g %d 0; return"
	for _, x := range []struct {
		f, g, copies int
	}{
		// Stacks of 16, then of 32: 3 words of main, and 7 behind the last frame.
		{7, 15, 1}, {7, 16, 2}, {22, 3, 2}, {19, 3, 1}, {20, 3, 2}, {6, 16, 1}, {6, 17, 1}, {6, 3, 1}, {3, 3, 0}, {3, 4, 1},
		// Of 64 at once.
		{23, 31, 1}, {23, 32, 2}, {51, 3, 1}, {52, 3, 2},
		// Of 1024 at once, and of 2048.
		{1000, 14, 1}, {1000, 15, 2}, {1000, 1000, 2},
	} {
		want := "exit in 5:"
		if x.copies > 0 {
			want = fmt.Sprintf("exit in 5, copies %d:", x.copies)
		}
		wantMachine(t, fmt.Sprintf(text, x.f, x.g), setupOf(8, 16), want)
	}
	// It stays doubled, wherever frames go and come.
	wantMachine(t, "code main 3 0; call f; call f; call g; call f; return\ncode f 22 0; return\ncode g 3 0; call f; return", setupOf(8, 16), "exit in 11, copies 2:")
}

// TestOracleOfCalls: 2 is a copy to a region of the same size, behind the old one and ahead of it by turns.
func TestOracleOfCalls(t *testing.T) {
	for _, x := range []struct {
		oracle []int
		want   string
	}{
		{nil, "exit in 20: 4 2 2 66"},
		{[]int{2}, "exit in 20, copies 1: 34 2 2 66"},
		{[]int{0, 2}, "exit in 20, copies 1: 34 2 2 66"},
		{[]int{2, 2}, "exit in 20, copies 2: 4 2 2 66"},
		// Behind the last frame only so many words are copied as may be passed; what was left further behind is not.
		{[]int{0, 0, 2}, "exit in 20, copies 1: 0 0 0 0"},
		{[]int{0, 0, 0, 2}, "exit in 20, copies 1: 4 2 2 66"},
		{[]int{2, 0, 0, 2}, "exit in 20, copies 2: 34 2 2 66"},
		// Back in the old region, there is what was left.
		{[]int{0, 0, 2, 2}, "exit in 20, copies 2: 0 0 0 0"},
		{[]int{0, 2, 2}, "exit in 20, copies 2: 0 0 0 0"},
		{[]int{2, 0, 2, 0}, "exit in 20, copies 2: 0 0 0 0"},
		{[]int{0, 0, 0, 0, 2}, "exit in 20: 4 2 2 66"},
		// At a call, all else says nothing.
		{[]int{1, 1, 1, 1}, "exit in 20: 4 2 2 66"},
		{[]int{-2, 3, 258, 4}, "exit in 20: 4 2 2 66"},
		{[]int{math.MinInt, math.MaxInt, 2 + 1<<32, 22}, "exit in 20: 4 2 2 66"},
	} {
		wantMachine(t, leftHeads, setupOf(8, 30, x.oracle...), x.want)
	}
}

// TestWordsThatAreCopied: from the first word of the region up to the last one that may be passed, not with the next.
func TestWordsThatAreCopied(t *testing.T) {
	// f leaves its own numbers at 7 .. 17; h has no words of its own, so that the Params of k are at 10 .. 13.
	text := "code main 3 0; call f; call h; call h; return\ncode f 14 0\n"
	for slot := 3; slot < 14; slot++ {
		text += fmt.Sprintf("int r1 %d; store r1 %d\n", 104+slot, slot)
	}
	text += "return\ncode h 3 0; call k; return\ncode k 7 4; load r1 3; print r1; load r1 4; print r1; load r1 5; print r1; load r1 6; print r1; return"
	for _, x := range []struct {
		oracle []int
		want   string
	}{
		{nil, "exit in 49: 110 111 112 113 110 111 112 113"},
		{[]int{0, 2}, "exit in 49, copies 1: 110 0 0 0 110 0 0 0"},
		{[]int{0, 0, 2}, "exit in 49, copies 1: 110 111 112 113 110 111 112 113"},
		// To the other region and back: what was left there is there again.
		{[]int{0, 2, 0, 2}, "exit in 49, copies 2: 110 0 0 0 110 111 112 113"},
		{[]int{0, 2, 2}, "exit in 49, copies 2: 110 0 0 0 110 0 0 0"},
		{[]int{0, 0, 0, 2}, "exit in 49, copies 1: 110 111 112 113 110 0 0 0"},
		{[]int{0, 0, 0, 2, 2}, "exit in 49, copies 2: 110 111 112 113 110 0 0 0"},
	} {
		wantMachine(t, text, setupOf(8, 40, x.oracle...), x.want)
	}
}

// TestFirstFrameThatDoesNotFit: it is treated as others are.
func TestFirstFrameThatDoesNotFit(t *testing.T) {
	for _, x := range []struct {
		stack, frame, copies int
	}{
		{16, 9, 0}, {16, 10, 1}, {16, 25, 1}, {16, 26, 1}, {16, 1000, 1}, {100, 93, 0}, {100, 94, 1}, {1006, 1000, 1}, {1007, 1000, 0}, {2000, 1000, 0},
	} {
		text := fmt.Sprintf("code main %d 0; load r1 3; print r1; load r1 %d; print r1; return", x.frame, x.frame-1)
		want, none := "exit in 5: 0 0", "fuel in 0:"
		if x.copies > 0 {
			want, none = "exit in 5, copies 1: 0 0", "fuel in 0, copies 1:"
		}
		wantMachine(t, text, setupOf(8, x.stack), want)
		wantMachineWithFuel(t, text, setupOf(8, x.stack), none)
	}
	// It lies behind the region that it did not fit into; and it is no safe place. (leftHeads needs 18 words behind it.)
	for _, x := range []struct {
		frame, stack int
		oracle       []int
		want         string
	}{
		{9, 16, nil, "exit in 20, copies 1: 26 2 2 66"},
		{10, 16, nil, "exit in 20, copies 1: 27 2 2 66"},
		{14, 16, nil, "exit in 20, copies 1: 31 2 2 66"},
		{25, 16, nil, "exit in 20, copies 2: 74 2 2 66"},
		{26, 16, nil, "exit in 20, copies 1: 43 2 2 66"},
		{10, 17, nil, "exit in 20, copies 1: 28 2 2 66"},
		{20, 30, nil, "exit in 20, copies 1: 51 2 2 66"},
		{50, 30, nil, "exit in 20, copies 2: 141 2 2 66"},
		{42, 32, nil, "exit in 20, copies 1: 75 2 2 66"},
		{42, 32, []int{2}, "exit in 20, copies 2: 139 2 2 66"},
		{42, 32, []int{0, 2}, "exit in 20, copies 2: 139 2 2 66"},
		{42, 32, []int{2, 2}, "exit in 20, copies 3: 43 2 2 66"},
	} {
		text := strings.Replace(leftHeads, "code main 3", fmt.Sprint("code main ", x.frame), 1)
		wantMachine(t, text, setupOf(8, x.stack, x.oracle...), x.want)
	}
}

// TestNoRegionLeft: where a frame needs one, that is the end; where just the oracle asks for one, nothing.
func TestNoRegionLeft(t *testing.T) {
	itself := "code main %d 0; call f; return\ncode f 1000 0; call f; return"
	for _, x := range []struct {
		main, stack int
		oracle      []int
		want        string
	}{
		{1000, 2000, nil, "memory in 3, copies 1:"},
		{1000, 1500, nil, "memory in 5, copies 2:"},
		// From 1 + 5 * 923 on there are just 8 * 923 words.
		{916, 923, nil, "memory in 7, copies 2:"},
		{916, 924, nil, "memory in 3, copies 1:"},
		// From 4001 on there is one word less than 8000; of 7996 that is not so.
		{1000, 2000, []int{0, 2, 2}, "memory in 3, copies 3:"},
		{1000, 1999, []int{0, 2, 2}, "memory in 7, copies 4:"},
		// A stack of 6000 from 4501 on can't be copied.
		{1000, 1500, []int{0, 0, 2}, "memory in 5, copies 2:"},
		{1000, 1500, []int{0, 0, 0, 2, 2, 2}, "memory in 5, copies 2:"},
		// Copied once more ahead of it, one of 3000 leaves no room for one of 6000.
		{1000, 1500, []int{0, 2}, "memory in 2, copies 2:"},
		{3, 16, nil, "memory in 5, copies 3:"},
	} {
		wantMachine(t, fmt.Sprintf(itself, x.main), setupOf(8, x.stack, x.oracle...), x.want)
	}
	// Only the oracle asks: all goes on.
	wantMachine(t, "code main 1000 0; call f; return\ncode f 1000 0; call g; return\ncode g 1000 0; call h; return\ncode h 999 0; int r1 7; store r1 3; call k; load r1 3; print r1; return\ncode k 3 0; return", setupOf(8, 1500, 0, 0, 0, 2, 2), "exit in 13, copies 2: 7")
}

// TestFramesBehindCopies: all frames are found again, with all their words, wherever the stack is copied when.
func TestFramesBehindCopies(t *testing.T) {
	// Each frame keeps its number, twice it, and three times it, and puts them out behind its call.
	text := "code main 6 0; int r1 4; pass r1 0; int r2 1000; store r2 3; store r2 5; call f; load r1 3; print r1; load r1 4; print r1; load r1 5; print r1; call g; load r1 5; print r1; return\n" +
		"code f 9 1; load r1 3; if r1 o; add r2 r1 r1; store r2 4; add r2 r2 r1; store r2 8; int r3 1; sub r1 r1 r3; pass r1 0; call f; load r1 3; print r1; load r1 4; print r1; load r1 8; print r1; o :; return\n" +
		"code g 20 0; int r2 5; store r2 19; call f; load r1 19; print r1; return"
	m := machineOf(text)
	want := "1 2 3 2 4 6 3 6 9 4 8 12 1000 0 1000"
	counts := map[int]int{}
	for _, stack := range []int{16, 17, 20, 30, 100} {
		for pattern := range 256 {
			oracle := []int{}
			for n := range 8 {
				oracle = append(oracle, 2*(pattern>>n&1))
			}
			s := setupOf(8, stack, oracle...)
			r := impl.RunImage(m, s)
			if pattern%16 == 3 {
				r = runMachine(t, m, s)
			}
			if got := itemsText(r.Out); !strings.HasPrefix(got, want) || r.End != impl.EndExit {
				t.Fatalf("with %s: %s", showSetup(s), resultText(r))
			}
			counts[r.Copies]++
		}
	}
	if len(counts) < 8 {
		t.Errorf("copies %v", counts)
	}
}

// TestOracleOfAllSorts: safe places of all kinds are counted together, as they come.
func TestOracleOfAllSorts(t *testing.T) {
	text := "struct\ncode main 4 0; int r1 1; new r9 0; print r9; call f; ints r9 r1; print r9; call f; new r9 0; print r9; return\ncode f 3 0; ptrs r9 r1; print r9; return"
	for _, x := range []struct {
		oracle []int
		want   string
	}{
		{nil, "exit in 16: 12000 12001 12003 12005 12007"},
		{[]int{1, 2, 1, 1, 2, 1, 1}, "exit in 16, moves 5, copies 2: 12050 12000 12050 12000 12050"},
		{[]int{2, 1, 2, 2, 1, 2, 2}, "exit in 16: 12000 12001 12003 12005 12007"},
		{[]int{1, 2}, "exit in 16, moves 1, copies 1: 12050 12051 12053 12055 12057"},
		{[]int{0, 0, 0, 1}, "exit in 16, moves 1: 12000 12001 12050 12052 12054"},
		{[]int{0, 0, 0, 0, 2}, "exit in 16, copies 1: 12000 12001 12003 12005 12007"},
		{[]int{0, 0, 0, 0, 0, 0, 1, 1, 1, 1}, "exit in 16, moves 1: 12000 12001 12003 12005 12050"},
		{make([]int, impl.MaxOracle), "exit in 16: 12000 12001 12003 12005 12007"},
	} {
		wantMachine(t, text, setupOf(50, 100, x.oracle...), x.want)
	}
	// MaxOracle safe places and more: the last thing that is said counts, behind it nothing is.
	long := "struct\ncode main 3 0; int r1 1001; int r2 1; a :; new r9 0; call f; sub r1 r1 r2; if r1 o; jump a; o :; return\ncode f 3 0; return"
	oracle := make([]int, impl.MaxOracle)
	for n := range oracle {
		oracle[n] = 2 - (n+1)%2
	}
	s := setupOf(4000, 16, oracle...)
	s.Fuel = impl.MaxFuel
	wantMachine(t, long, s, "exit in 6008, moves 1000, copies 1000:")
}
