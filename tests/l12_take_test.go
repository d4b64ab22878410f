package tests

import (
	"fmt"
	"math"
	"strings"
	"testing"

	"loop.example/g00306/impl"
)

// takes are so many new objects, whose places are put out; none is kept.
func takes(op string, count int) string {
	return strings.Repeat(op+"; print r9\n", count) + "return"
}

// TestPlacesOfObjects: one right behind the other, each with its first word.
func TestPlacesOfObjects(t *testing.T) {
	wantMachines(t, "struct\nstruct .\nstruct * * * * *\ncode main 3 0", setupOf(200, 100), [][2]string{
		{takes("new r9 0", 3), "exit in 7: 12000 12001 12002"},
		{takes("new r9 1", 3), "exit in 7: 12000 12002 12004"},
		{takes("new r9 2", 3), "exit in 7: 12000 12006 12012"},
		{takes("ints r9 r1", 3), "exit in 7: 12000 12001 12002"},
		{takes("ptrs r9 r1", 3), "exit in 7: 12000 12001 12002"},
		{"int r1 1\n" + takes("floats r9 r1", 3), "exit in 8: 12000 12002 12004"},
		{"int r1 9\n" + takes("ptrs r9 r1", 3), "exit in 8: 12000 12010 12020"},
		{"int r1 99\n" + takes("ints r9 r1", 2), "exit in 6: 12000 12100"},
		{"int r1 2; new r9 2; print r9; ints r9 r1; print r9; new r9 0; print r9; ptrs r9 r0; print r9; new r9 1; print r9; floats r9 r1; print r9; return", "exit in 14: 12000 12006 12009 12010 12011 12013"},
	})
}

// TestFullHalves: filled to its last word a half is enough, with one word more there is a collection.
func TestFullHalves(t *testing.T) {
	for _, half := range []int{8, 9, 12, 100, 3999, 4000} {
		// The first object is kept and has all words but so many.
		for _, left := range []int{0, 1, 2, 3} {
			heads := "struct\nstruct .\nstruct . .\ncode main 60 0\n"
			steps, kept := 0, ""
			slot := 3
			for words := half - left; words > 0; slot++ {
				size := min(words, 101)
				heads += fmt.Sprintf("int r1 %d; ints r9 r1%s; store r9 %d\n", size-1, strings.TrimSuffix(" @"+kept, " @"), slot)
				kept += fmt.Sprint(" ", slot)
				words -= size
				steps += 3
			}
			for fields := range 3 {
				text := heads + fmt.Sprintf("new r9 %d @%s; print r9; return", fields, kept)
				want := fmt.Sprintf("exit in %d: %d", steps+3, 12000+half-left)
				if 1+fields > left {
					want = fmt.Sprintf("memory in %d, moves 1:", steps+1)
				}
				wantMachine(t, text, setupOf(half, 100), want)
				// Where nothing is kept, a collection makes room.
				if 1+fields > left {
					want = fmt.Sprintf("exit in %d, moves 1: %d", steps+3, 12000+half)
				}
				wantMachine(t, heads+fmt.Sprintf("new r9 %d; print r9; return", fields), setupOf(half, 100), want)
			}
		}
	}
}

// TestHalvesByTurns: collections go to and fro.
func TestHalvesByTurns(t *testing.T) {
	wantMachine(t, "struct . . .\ncode main 3 0\n"+takes("new r9 0", 7), setupOf(8, 16), "exit in 15, moves 3: 12000 12004 12008 12012 12000 12004 12008")
	wantMachine(t, "struct . . .\ncode main 3 0\n"+takes("new r9 0", 7), setupOf(11, 16), "exit in 15, moves 3: 12000 12004 12011 12015 12000 12004 12011")
	wantMachine(t, "struct . . .\ncode main 3 0\n"+takes("new r9 0", 5), setupOf(12, 16), "exit in 11, moves 1: 12000 12004 12008 12012 12016")
	wantMachine(t, "struct\ncode main 3 0\n"+takes("new r9 0", 18), setupOf(8, 16), "exit in 37, moves 2: 12000 12001 12002 12003 12004 12005 12006 12007 12008 12009 12010 12011 12012 12013 12014 12015 12000 12001")
	wantMachine(t, "code main 3 0; int r1 7\n"+takes("ints r9 r1", 4), setupOf(8, 16), "exit in 10, moves 3: 12000 12008 12000 12008")
	wantMachine(t, "code main 3 0; int r1 100\n"+takes("floats r9 r1", 3), setupOf(101, 16), "exit in 8, moves 2: 12000 12101 12000")
}

// TestTooGreatForHalf: what has more words than a half ends behind a collection.
func TestTooGreatForHalf(t *testing.T) {
	wantMachine(t, "code main 3 0; int r1 8; ints r9 r1; return", setupOf(8, 16), "memory in 2, moves 1:")
	wantMachine(t, "code main 3 0; int r1 7; ints r9 r1; return", setupOf(8, 16), "exit in 3:")
	wantMachine(t, "code main 3 0; int r1 100; ints r9 r1; return", setupOf(100, 16), "memory in 2, moves 1:")
	wantMachine(t, "code main 3 0; int r1 100; ints r9 r1; return", setupOf(101, 16), "exit in 3:")
}

// TestOracleOfObjects: 1 is a collection ahead of the object; if there is no room behind it, there is another one.
func TestOracleOfObjects(t *testing.T) {
	three := "struct . .\ncode main 3 0\n" + takes("new r9 0", 3)
	for _, x := range []struct {
		oracle []int
		want   string
	}{
		{nil, "exit in 7: 12000 12003 12006"},
		{[]int{1}, "exit in 7, moves 1: 12020 12023 12026"},
		{[]int{0, 1}, "exit in 7, moves 1: 12000 12020 12023"},
		{[]int{0, 0, 1}, "exit in 7, moves 1: 12000 12003 12020"},
		{[]int{0, 0, 0, 1}, "exit in 7: 12000 12003 12006"},
		{[]int{1, 1, 1, 1, 1}, "exit in 7, moves 3: 12020 12000 12020"},
		{[]int{1, 0, 1}, "exit in 7, moves 2: 12020 12023 12000"},
		{[]int{2, 2, 2}, "exit in 7: 12000 12003 12006"},
		{[]int{-1, 3, 257}, "exit in 7: 12000 12003 12006"},
		{[]int{math.MinInt, math.MaxInt, 1 + 1<<32}, "exit in 7: 12000 12003 12006"},
	} {
		wantMachine(t, three, setupOf(20, 100, x.oracle...), x.want)
		wantMachine(t, "code main 3 0; int r1 2\n"+takes("ptrs r9 r1", 3), setupOf(20, 100, x.oracle...), strings.Replace(x.want, "in 7", "in 8", 1))
	}
	// Both at one object: what is kept leaves no room.
	full := "struct . . .\ncode main 5 0; new r1 0; store r1 3; new r1 0 @ 3; store r1 4; new r1 0 @ 3 4; print r1; return"
	wantMachine(t, full, setupOf(8, 16), "memory in 5, moves 1:")
	wantMachine(t, full, setupOf(8, 16, 0, 0, 1), "memory in 5, moves 2:")
	wantMachine(t, full, setupOf(8, 16, 1, 1, 1), "memory in 5, moves 4:")
	wantMachine(t, full, setupOf(11, 16, 0, 0, 1), "memory in 5, moves 2:")
	wantMachine(t, full, setupOf(12, 16, 0, 0, 1), "exit in 7, moves 1: 12020")
	// The oracle's collection makes room, so that there is no other one.
	wantMachine(t, strings.Replace(full, "@ 3 4", "@ 3", 1), setupOf(8, 16, 0, 0, 1), "exit in 7, moves 1: 12012")
	wantMachine(t, strings.Replace(full, "@ 3 4", "@ 3", 1), setupOf(8, 16), "exit in 7, moves 1: 12012")
}

// TestNewWordsAreNoughts: whatever was in the half before.
func TestNewWordsAreNoughts(t *testing.T) {
	for _, oracle := range [][]int{nil, {0, 1}, {0, 1, 1}, {0, 1, 0, 1}, {1, 1, 1, 1, 1, 1}} {
		m := machineOf("struct . . .\ncode main 4 0; int r8 4; a :; new r1 0; getf r2 r1 0; print r2; getf r2 r1 1; print r2; getf r2 r1 2; print r2\n" +
			"int r3 77; putf r1 r3 0; putf r1 r3 1; putf r1 r3 2; int r4 3; ints r5 r4; int r4 2; gete r6 r5 r4; print r6; pute r5 r4 r3; int r4 0; gete r6 r5 r4; print r6; pute r5 r4 r3\n" +
			"int r7 1; sub r8 r8 r7; if r8 o; jump a; o :; return")
		r := runMachine(t, m, setupOf(8, 16, oracle...))
		for _, item := range r.Out {
			if item.N != 0 {
				t.Errorf("oracle %v: %s", oracle, resultText(r))
			}
		}
		if r.End != impl.EndExit || len(r.Out) != 20 || r.Moves < 3 {
			t.Errorf("oracle %v: %s", oracle, resultText(r))
		}
	}
	// A list lies where the first words of other objects were.
	wantMachine(t, "struct\nstruct\ncode main 3 0\n"+strings.Repeat("new r1 1\n", 16)+"int r2 7; ints r3 r2; print r3; int r4 6; a :; gete r5 r3 r4; print r5; if r4 o; int r6 1; sub r4 r4 r6; jump a; o :; return",
		setupOf(8, 16), "exit in 60, moves 2: 12000 0 0 0 0 0 0 0")
}

// TestGreatestHalf: both halves lie behind all stacks, and end where memory may end.
func TestGreatestHalf(t *testing.T) {
	text := "code main 4 0; int r1 100; int r2 39; a :; ints r3 r1; print r3; if r2 o; int r4 1; sub r2 r2 r4; jump a; o :; int r1 59; ints r3 r1; print r3; int r1 0; ints r3 r1; print r3; return"
	r := runMachine(t, machineOf(text), setupOf(impl.MaxHalf, impl.MaxStack))
	want := []int{}
	for n := range 39 {
		want = append(want, 12000+101*n)
	}
	// 39 lists of 101 words are 3939; the next one comes behind a collection.
	want = append(want, 16000, 16101, 16161)
	for n, item := range r.Out {
		if n >= len(want) || item.N != want[n] {
			t.Fatal(resultText(r))
		}
	}
	if r.End != impl.EndExit || r.Moves != 1 || len(r.Out) != len(want) {
		t.Error(resultText(r))
	}
}
