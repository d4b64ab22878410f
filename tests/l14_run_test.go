package tests

import (
	"fmt"
	"math"
	"slices"
	"strings"
	"testing"

	"loop.example/g00306/impl"
)

// wantTextRun fails unless a text, behind passes, ends so in a setup.
func wantTextRun(t *testing.T, text string, passes []int, s impl.Setup, want string) {
	t.Helper()
	if got := resultText(runText(t, text, passes, s)); got != want {
		t.Errorf("%s\nbehind %v, with %s: %s\nwant: %s", text, passes, showSetup(s), got, want)
	}
}

// TestTextsThatAreNotRun: the zero value, whatever the setup says.
func TestTextsThatAreNotRun(t *testing.T) {
	for _, text := range []string{
		"", "?", "func", "func main ( ) {", "func f ( ) { }", "func main ( ) { return ; return ; }", "func main ( ) { panic 0f0000000000000000 ; }", "func main ( ) { print x ; }", branchedText(impl.MaxBlocks + 1), strings.Repeat(" ", impl.MaxProgram+1),
	} {
		for _, passes := range [][]int{nil, {0}, {9}} {
			for _, s := range []impl.Setup{roomySetup(1, 2), {}, {Half: 8, Stack: 16, Fuel: 0}, {Half: 7, Stack: 16, Fuel: 10}} {
				if r := runText(t, text, passes, s); !sameResult(r, impl.Result{}) {
					t.Errorf("%s: %s", shortText(text), resultText(r))
				}
			}
		}
	}
	// Of passes that may not be, or that leave too much.
	for _, passes := range [][]int{{4}, {-1}, make([]int, impl.MaxPasses+1)} {
		wantTextRun(t, "func main ( ) { print 1 ; }", passes, roomySetup(), "refused in 0:")
	}
	wantTextRun(t, "func main ( ) { print 1 ; }", make([]int, impl.MaxPasses), roomySetup(), "exit in 3: 1")
}

// TestSetupsInWhichNoTextIsRun: each number of a setup at its ends, and past them.
func TestSetupsInWhichNoTextIsRun(t *testing.T) {
	const text = "func main ( ) { print read ; }"
	for _, x := range []struct {
		field string
		runs  bool
		list  []int
	}{
		{"half", true, []int{8, 9, 4000}}, {"half", false, []int{7, 4001, 0, -8, math.MinInt, math.MaxInt}},
		{"stack", true, []int{16, 17, 2000}}, {"stack", false, []int{15, 2001, 0, -16, math.MinInt, math.MaxInt}},
		{"fuel", true, []int{0, 1, 200000}}, {"fuel", false, []int{-1, 200001, math.MinInt, math.MaxInt}},
		{"input", true, []int{0, 1, 100}}, {"input", false, []int{101, 5000}},
		{"oracle", true, []int{0, 1, 2000}}, {"oracle", false, []int{2001, 5000}},
	} {
		for _, n := range x.list {
			s := setupOf(200, 200)
			setupFields[x.field](&s, n)
			for _, passes := range [][]int{nil, {3, 2, 1, 0}} {
				r := runText(t, text, passes, s)
				if (r.End != impl.EndRefused) != x.runs || !x.runs && !sameResult(r, impl.Result{}) {
					t.Errorf("%s %d: %s", x.field, n, resultText(r))
				}
			}
		}
	}
	if r := runText(t, text, nil, impl.Setup{}); !sameResult(r, impl.Result{}) {
		t.Error(resultText(r))
	}
}

// TestTextsRun: what is put out, in how many steps, and what was moved, by hand.
func TestTextsRun(t *testing.T) {
	// Four instructions: 2, 3, their sum, and that it is put out; and the return. Behind passes the sum is there at once.
	sum := "func main ( ) { print ( 2 + 3 ) ; }"
	wantTextRun(t, sum, nil, setupOf(8, 16), "exit in 5: 5")
	wantTextRun(t, sum, passesOf("f"), setupOf(8, 16), "exit in 5: 5")
	wantTextRun(t, sum, passesOf("fd"), setupOf(8, 16), "exit in 3: 5")
	wantTextRun(t, sum, passesOf("df"), setupOf(8, 16), "exit in 5: 5")
	// An object of three words, thrice: two of them fit into the least half.
	three := "type P struct { i int ; p * P ; } func main ( ) { var p * P ; p = new P ; p = new P ; p = new P ; print p . i ; }"
	wantTextRun(t, three, nil, setupOf(8, 16), "exit in 8, moves 1: 0")
	wantTextRun(t, three, nil, setupOf(9, 16), "exit in 8: 0")
	wantTextRun(t, three, nil, setupOf(8, 16, 1), "exit in 8, moves 2: 0")
	wantTextRun(t, three, nil, setupOf(8, 16, 1, 1, 1, 1), "exit in 8, moves 3: 0")
	wantTextRun(t, three, nil, setupOf(8, 16, 0, 0, 1), "exit in 8, moves 1: 0")
	wantTextRun(t, three, nil, setupOf(8, 16, 2, 2, 2), "exit in 8, moves 1: 0")
	// A call, of which an oracle copies the stack.
	calls := "func f ( ) { } func main ( ) { do f ( ) ; do f ( ) ; print read ; }"
	wantTextRun(t, calls, nil, impl.Setup{Half: 8, Stack: 16, Fuel: 100, Input: []int{7}}, "exit in 7: 7")
	wantTextRun(t, calls, nil, impl.Setup{Half: 8, Stack: 16, Fuel: 100, Input: []int{7}, Oracle: []int{2}}, "exit in 7, copies 1: 7")
	wantTextRun(t, calls, nil, impl.Setup{Half: 8, Stack: 16, Fuel: 100, Input: []int{7}, Oracle: []int{2, 2}}, "exit in 7, copies 2: 7")
	wantTextRun(t, calls, nil, impl.Setup{Half: 8, Stack: 16, Fuel: 100, Input: []int{7}, Oracle: []int{1, 3}}, "exit in 7: 7")
	for fuel, want := range []string{"fuel in 0:", "fuel in 1:", "fuel in 2:", "fuel in 3:", "fuel in 4:", "fuel in 5:", "fuel in 6: 7", "exit in 7: 7", "exit in 7: 7"} {
		wantTextRun(t, calls, nil, impl.Setup{Half: 8, Stack: 16, Fuel: fuel, Input: []int{7}}, want)
	}
}

// TestTextsShareNothing: what is handed in may be changed behind the call, and what is handed back, too.
func TestTextsShareNothing(t *testing.T) {
	for _, x := range handSources() {
		text, passes := withRoom(x.text), roomy([]int{1, 0, 2, 3})
		s := roomy(impl.Setup{Half: 100, Stack: 20, Fuel: 20000, Input: x.input, Oracle: []int{1, 2, 0, 1}})
		first, second := impl.Compile(text, passes), impl.Compile(text, passes)
		run, again := impl.RunText(text, passes, s), impl.RunText(text, passes, s)
		was, told := string(first.Bytes), resultText(run)
		for n := range first.Bytes {
			first.Bytes[n] = '?'
		}
		_ = append(first.Bytes, '?', '?')
		for n := range run.Out {
			run.Out[n] = impl.Item{Kind: 9, N: 9}
		}
		_ = append(run.Out, impl.Item{Kind: 9, N: 9})
		for n := range text {
			text[n] = '?'
		}
		clear(passes)
		clear(s.Input)
		clear(s.Oracle)
		if string(second.Bytes) != was || resultText(again) != told {
			t.Errorf("%s\nis answered otherwise when something else was changed", x.text)
		}
	}
}

// TestTextsAskedTwice: with other calls between, the same is told.
func TestTextsAskedTwice(t *testing.T) {
	var first []string
	for round := range 2 {
		for n, x := range handSources() {
			for p, passes := range [][]int{nil, {0, 1, 2, 3}, {9}} {
				s := impl.Setup{Half: 60, Stack: 20, Fuel: 9000, Input: x.input, Oracle: []int{1, 2, 0, 1}}
				told := fmt.Sprint(impl.Compile([]byte(x.text), passes), resultText(impl.RunText([]byte(x.text), passes, s)))
				if round == 0 {
					first = append(first, told)
				} else if first[3*n+p] != told {
					t.Errorf("%s\nis answered otherwise the second time", x.text)
				}
			}
			impl.Compile([]byte("func"), nil)
			impl.RunText([]byte("func main ( ) { for 1 { } }"), []int{0}, setupOf(8, 16, 1))
		}
	}
}

// TestBlanksInTextsRun: blanks around and between change nothing of what is compiled.
func TestBlanksInTextsRun(t *testing.T) {
	for _, x := range handSources() {
		for _, passes := range [][]int{nil, passesOf("fcsd")} {
			plain := impl.Compile([]byte(x.text), passes)
			for _, text := range []string{compact(x.text), " \n" + x.text + "\n ", strings.ReplaceAll(x.text, " ", "\n"), strings.ReplaceAll(x.text, " ", "  ")} {
				if b := compile(t, text, passes); !sameBuild(b, plain) {
					t.Errorf("%s\nis compiled otherwise than\n%s", text, x.text)
				}
			}
		}
	}
}

// TestRoomBehindArgumentsOfTexts is not read.
func TestRoomBehindArgumentsOfTexts(t *testing.T) {
	text := []byte("func main ( ) { print read ; print read ; } ? ?")
	passes := []int{3, 9, 9}
	s := setupOf(8, 16)
	s.Input = []int{4, 5, 6}[:1]
	s.Oracle = slices.Repeat([]int{1}, 3000)[:5]
	if r := impl.RunText(text[:len(text)-4], passes[:1], s); resultText(r) != "exit in 5: 4 0" {
		t.Error(resultText(r))
	}
	if b := impl.Compile(text[:len(text)-4], passes[:0]); b.Code != impl.BuildWell {
		t.Error(showBuild(b))
	}
	if b := impl.Compile(text, passes[:1]); b.Code != impl.BuildByte || b.At != len(text)-3 {
		t.Error(showBuild(b))
	}
}
