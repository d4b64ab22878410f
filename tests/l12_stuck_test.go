package tests

import (
	"fmt"
	"math"
	"slices"
	"strings"
	"testing"

	"loop.example/g00306/impl"
)

func TestMachineTraps(t *testing.T) {
	for _, x := range []struct {
		op    string
		wants map[int]string
	}{
		{"nil", map[int]string{0: "trap nil in 2:", 1: "exit in 3:", -1: "exit in 3:", 12000: "exit in 3:", math.MinInt: "exit in 3:", math.MaxInt: "exit in 3:"}},
		{"zero", map[int]string{0: "trap zero in 2:", 1: "exit in 3:", -1: "exit in 3:", 1 << 32: "exit in 3:", math.MinInt: "exit in 3:", math.MaxInt: "exit in 3:"}},
		{"size", map[int]string{-1: "trap make in 2:", 0: "exit in 3:", 1: "exit in 3:", 99: "exit in 3:", 100: "exit in 3:", 101: "trap make in 2:", 1 << 32: "trap make in 2:", math.MinInt: "trap make in 2:", math.MaxInt: "trap make in 2:"}},
	} {
		for n, want := range x.wants {
			wantMachine(t, fmt.Sprintf("code main 3 0; int r4 %d; %s r4; return", n, x.op), roomySetup(), want)
		}
	}
	// Of what nobody set, 0.
	wantMachine(t, "code main 3 0; print r1; nil r2; return", roomySetup(), "trap nil in 2: 0")
	wantMachine(t, "code main 3 0; call f; return; code f 3 0; zero r2; return", roomySetup(), "trap zero in 2:")
}

func TestIndexTraps(t *testing.T) {
	for _, list := range []string{"ints", "floats", "ptrs"} {
		for _, count := range []int{0, 1, 2, 5, 100} {
			for _, at := range []int{math.MinInt, -1, 0, 1, count - 1, count, count + 1, math.MaxInt, math.MinInt + count, 1 << 32} {
				want := "exit in 5:"
				if at < 0 || at >= count {
					want = "trap index in 4:"
				}
				wantMachine(t, fmt.Sprintf("code main 3 0; int r1 %d; %s r2 r1; int r3 %d; index r2 r3; return", count, list, at), roomySetup(), want)
			}
		}
	}
	for _, at := range []int{math.MinInt, -1, 0, 1, 12000, math.MaxInt} {
		wantMachine(t, fmt.Sprintf("code main 3 0; int r3 %d; index r2 r3; return", at), roomySetup(), "trap index in 2:")
	}
}

func TestLengthsOfLists(t *testing.T) {
	wantMachine(t, "code main 3 0; int r2 9; len r2 r1; print r2; return", roomySetup(), "exit in 4: 0")
	for _, list := range []string{"ints", "floats", "ptrs"} {
		for _, count := range []int{0, 1, 2, 99, 100} {
			wantMachine(t, fmt.Sprintf("code main 3 0; int r1 %d; %s r2 r1; len r3 r2; print r3; return", count, list), roomySetup(), fmt.Sprint("exit in 5: ", count))
		}
	}
	for n := range 3 {
		wantMachine(t, fmt.Sprintf("struct; struct . .; struct * *; code main 3 0; new r2 %d; len r3 r2; return", n), roomySetup(), "stuck in 2:")
	}
}

// oneObject takes a struct of 2 fields in a half of 20 words: it lies at 12000, and 12003 is the word behind it. (There is
// another struct, of none.)
const oneObject = "struct * .\nstruct\ncode main 5 0\nnew r1 0\n"

// strangers are words, but for 0, that are not the place of the only object, which has 3 words: within it, behind it, in
// the other half, among stacks, and far outside.
func strangers() []int {
	return []int{12001, 12002, 12003, 12004, 12008, 12019, 12020, 12021, 12023, 12039, 12040, 12041, 1, 2, 3, 8, 100, 11998, 11999, -1, -12000, 20000, 1 << 40, 12000 + 1<<32, math.MinInt, math.MinInt + 12000, math.MaxInt}
}

// TestWordsThatAreNoPlaces: what looks into an object ends there, of whatever word that is not its place.
func TestWordsThatAreNoPlaces(t *testing.T) {
	for _, word := range strangers() {
		for _, op := range []string{"len r3 r2", "index r2 r3", "getf r3 r2 0", "putf r2 r3 0", "gete r4 r2 r3", "pute r2 r3 r4"} {
			wantMachine(t, fmt.Sprintf("%sint r2 %d; %s; return", oneObject, word, op), setupOf(20, 100), "stuck in 3:")
		}
	}
	for _, op := range []string{"getf r3 r2 0", "putf r2 r3 0", "gete r4 r2 r3", "pute r2 r3 r4"} {
		wantMachine(t, oneObject+op+"; return", setupOf(20, 100), "stuck in 2:")
	}
}

// TestObjectsOfTheOtherKind: fields are of structs, elements of lists, whatever the number.
func TestObjectsOfTheOtherKind(t *testing.T) {
	for _, list := range []string{"ints", "floats", "ptrs"} {
		for n := range impl.MaxFields {
			for _, op := range []string{"getf r3 r2", "putf r2 r3"} {
				wantMachine(t, fmt.Sprintf("code main 3 0; int r1 10; %s r2 r1; %s %d; return", list, op, n), roomySetup(), "stuck in 3:")
			}
		}
	}
	for _, fields := range []string{"", ".", "* *", ". . . . ."} {
		for _, op := range []string{"gete r4 r2 r3", "pute r2 r3 r4", "len r3 r2", "index r2 r3"} {
			wantMachine(t, "struct "+fields+"\ncode main 3 0; new r2 0; "+op+"; return", roomySetup(), "stuck in 2:")
		}
	}
}

// TestFieldsAndElements: those that there are keep what is theirs; one that is not there ends it.
func TestFieldsAndElements(t *testing.T) {
	for count := range impl.MaxFields + 1 {
		// Another struct, with more fields, is not asked.
		heads := "struct . . . . .\nstruct" + strings.Repeat(" .", count) + "\ncode main 3 0; new r2 1; new r9 0; int r1 7\n"
		for n := range impl.MaxFields {
			get, put := fmt.Sprintf("getf r3 r2 %d; print r3; return", n), fmt.Sprintf("putf r2 r1 %d; getf r3 r2 %d; print r3; return", n, n)
			if n < count {
				wantMachine(t, heads+get, roomySetup(), "exit in 6: 0")
				wantMachine(t, heads+put, roomySetup(), "exit in 7: 7")
			} else {
				wantMachine(t, heads+get, roomySetup(), "stuck in 4:")
				wantMachine(t, heads+put, roomySetup(), "stuck in 4:")
			}
		}
	}
	for _, list := range []string{"ints", "floats", "ptrs"} {
		for _, count := range []int{0, 1, 2, 100} {
			for _, at := range []int{math.MinInt, -1, 0, count - 1, count, count + 1, math.MaxInt, 1 << 32} {
				heads := fmt.Sprintf("code main 3 0; int r1 %d; %s r2 r1; int r3 %d; int r5 -4\n", count, list, at)
				get, put := "gete r4 r2 r3; print r4; return", "pute r2 r3 r5; gete r4 r2 r3; print r4; return"
				if at >= 0 && at < count {
					wantMachine(t, heads+get, roomySetup(), "exit in 7: 0")
					wantMachine(t, heads+put, roomySetup(), "exit in 8: -4")
				} else {
					wantMachine(t, heads+get, roomySetup(), "stuck in 5:")
					wantMachine(t, heads+put, roomySetup(), "stuck in 5:")
				}
			}
		}
	}
	// Two objects, one right behind the other: each keeps its own.
	wantMachine(t, "struct . .\ncode main 3 0; int r1 2; new r4 0; ints r5 r1; new r6 0; int r7 1; putf r4 r7 0; int r7 2; putf r4 r7 1; int r8 0; int r7 3; pute r5 r8 r7; int r8 1; int r7 4; pute r5 r8 r7; int r7 5; putf r6 r7 0\n"+
		"getf r9 r4 0; print r9; getf r9 r4 1; print r9; int r8 0; gete r9 r5 r8; print r9; int r8 1; gete r9 r5 r8; print r9; getf r9 r6 0; print r9; getf r9 r6 1; print r9; len r9 r5; print r9; return", roomySetup(), "exit in 33: 1 2 3 4 5 0 2")
}

// TestSizesThatMayNotBe: they are no safe place, so that nothing is collected.
func TestSizesThatMayNotBe(t *testing.T) {
	for _, list := range []string{"ints", "floats", "ptrs"} {
		for _, size := range []int{math.MinInt, -100, -1, 101, 102, 12000, 1 << 32, math.MaxInt} {
			text := fmt.Sprintf("code main 4 0; int r1 %d; %s r2 r1 @ 3; return", size, list)
			wantMachine(t, text, setupOf(1000, 100), "stuck in 2:")
			wantMachine(t, text, setupOf(1000, 100, 1), "stuck in 2:")
		}
		for _, size := range []int{0, 1, 100} {
			text := fmt.Sprintf("code main 4 0; int r1 %d; %s r2 r1 @ 3; return", size, list)
			wantMachine(t, text, setupOf(1000, 100), "exit in 3:")
			wantMachine(t, text, setupOf(1000, 100, 1), "exit in 3, moves 1:")
		}
	}
}

// TestPlacesOfTheOtherHalf: behind a collection old places are none any more, also where a new object was taken.
func TestPlacesOfTheOtherHalf(t *testing.T) {
	heads := "struct . .\ncode main 5 0; int r3 2; new r1 0; store r1 3; ints r2 r3 @ 3; store r2 4; new r5 0 @ 3 4; load r6 3; load r7 4\n"
	for _, op := range []string{"getf r9 r1 0", "putf r1 r9 1", "len r9 r2", "index r2 r9", "gete r9 r2 r9", "pute r2 r9 r9"} {
		wantMachine(t, heads+op+"; return", setupOf(20, 100, 0, 0, 1), "stuck in 9, moves 1:")
		wantMachine(t, heads+op+"; return", setupOf(20, 100), "exit in 10:")
	}
	for _, op := range []string{"getf r9 r6 0", "putf r6 r9 1", "len r9 r7", "index r7 r9", "gete r9 r7 r9", "pute r7 r9 r9", "getf r9 r5 1"} {
		wantMachine(t, heads+op+"; return", setupOf(20, 100, 0, 0, 1), "exit in 10, moves 1:")
	}
	// Two collections behind each other: the place is one of the half that is used, but there is no object any more.
	twice := "struct . .\ncode main 5 0; new r1 0; new r2 0; new r3 0; getf r9 r2 0; return"
	wantMachine(t, twice, setupOf(20, 100), "exit in 5:")
	wantMachine(t, twice, setupOf(20, 100, 0, 0, 1), "stuck in 4, moves 1:")
	wantMachine(t, "struct . .\ncode main 5 0; new r1 0; new r2 0; new r3 0; new r4 0; print r4; getf r9 r1 0; getf r9 r2 0; return", setupOf(20, 100, 0, 0, 1, 1), "stuck in 7, moves 2: 12000")
}

// TestWordsThatCollectionsMeet: at a slot of a map, in a field and in an element, what is neither 0 nor a place ends it.
func TestWordsThatCollectionsMeet(t *testing.T) {
	for _, word := range append(strangers(), 0, 12000) {
		want := "stuck in 4, moves 1:"
		if word == 0 || word == 12000 {
			want = "exit in 5, moves 1:"
		}
		s := setupOf(20, 100, 0, 1)
		wantMachine(t, fmt.Sprintf("%sint r2 %d; store r2 3; new r2 1 @ 3; return", oneObject, word), s, want)
		wantMachine(t, fmt.Sprintf("%sint r2 %d; store r2 4; new r2 1 @ 3 4; return", oneObject, word), s, want)
		// Where no map names it, it may be anything.
		wantMachine(t, fmt.Sprintf("%sint r2 %d; store r2 4; new r2 1 @ 3; return", oneObject, word), s, "exit in 5, moves 1:")
		longer := strings.Replace(want, " in 4", " in 5", 1)
		longer = strings.Replace(longer, "exit in 5", "exit in 6", 1)
		wantMachine(t, fmt.Sprintf("%sint r2 %d; store r1 3; putf r1 r2 0; new r2 1 @ 3; return", oneObject, word), s, longer)
		wantMachine(t, fmt.Sprintf("%sint r2 %d; store r1 3; putf r1 r2 1; new r2 1 @ 3; return", oneObject, word), s, "exit in 6, moves 1:")
		// An object that nobody finds may hold anything.
		wantMachine(t, fmt.Sprintf("%sint r2 %d; store r1 4; putf r1 r2 0; new r2 1 @ 3; return", oneObject, word), s, "exit in 6, moves 1:")
	}
	for _, list := range []string{"ints", "floats", "ptrs"} {
		for _, word := range append(strangers(), 0) {
			want := "exit in 8, moves 1:"
			if list == "ptrs" && word != 0 {
				want = "stuck in 7, moves 1:"
			}
			for at := range 2 {
				text := fmt.Sprintf("struct\ncode main 4 0; int r1 2; %s r2 r1; store r2 3; int r3 %d; int r4 %d; pute r2 r3 r4; new r6 0 @ 3; return", list, at, word)
				wantMachine(t, text, setupOf(20, 100, 0, 1), want)
			}
		}
	}
}

// TestStuckInCallers: a word in the frame of a caller is met, too, by the map of its call.
func TestStuckInCallers(t *testing.T) {
	for _, slots := range []string{"", "@ 3", "@ 4", "@ 3 4"} {
		text := "struct\ncode main 5 0; int r1 7; store r1 4; call f " + slots + "; return; code f 3 0; call g; return; code g 3 0; new r1 0; print r1; return"
		want := "exit in 9, moves 1: 12020"
		if slices.Contains(strings.Fields(slots), "4") {
			want = "stuck in 5, moves 1:"
		}
		wantMachine(t, text, setupOf(20, 100, 0, 0, 1), want)
	}
}

// TestPastTheLast: behind the last instruction there is none; that is no step, but fuel is asked for ahead of it.
func TestPastTheLast(t *testing.T) {
	wantMachineWithFuel(t, "code main 3 0; print r1", roomySetup(), "fuel in 0:", "fuel in 1: 0", "stuck in 1: 0", "stuck in 1: 0")
	wantMachineWithFuel(t, "code main 3 0; int r1 4; if r0 a; return; a :; print r1", roomySetup(), "fuel in 0:", "fuel in 1:", "fuel in 2:", "fuel in 3: 4", "stuck in 3: 4", "stuck in 3: 4")
	wantMachineWithFuel(t, "code main 3 0; call f; return; code f 3 0; print r1", roomySetup(), "fuel in 0:", "fuel in 1:", "fuel in 2: 0", "stuck in 2: 0")
	// A call at the end comes back to nowhere.
	wantMachineWithFuel(t, "code main 3 0; call f; code f 3 0; return", roomySetup(), "fuel in 0:", "fuel in 1:", "fuel in 2:", "stuck in 2:", "stuck in 2:")
	// MoIf that does not jump is passed by as others are.
	wantMachineWithFuel(t, "code main 3 0; int r1 1; a :; if r1 a", roomySetup(), "fuel in 0:", "fuel in 1:", "fuel in 2:", "stuck in 2:")
	for op := range opBounds {
		if slices.Contains([]int{impl.MoCall, impl.MoReturn, impl.MoPanic, impl.MoJump, impl.MoIf, impl.MoNil, impl.MoZero, impl.MoIndex, impl.MoGetF, impl.MoPutF, impl.MoGetE, impl.MoPutE}, op) {
			continue
		}
		m := imageOf(codeOf(9, 0, impl.Ins{Op: op, A: 1, B: 2, C: 3, N: max(0, opBounds[op][0])}))
		m.Structs = [][]bool{{}}
		if r := runMachine(t, m, roomySetup()); r.End != impl.EndStuck || r.Steps != 1 {
			t.Errorf("op %d: %s", op, resultText(r))
		}
	}
}
