package tests

import (
	"fmt"
	"math"
	"testing"

	"loop.example/g00306/impl"
)

// wantSetup fails unless a setup may be, and an image is run in it, or is not.
func wantSetup(t *testing.T, what string, s impl.Setup, want bool) {
	t.Helper()
	full := roomy(s)
	was := deepText(full)
	ok := impl.SetupOk(full)
	if ok != want || impl.SetupOk(full) != ok {
		t.Errorf("%s: %v, want %v", what, ok, want)
	}
	if deepText(full) != was {
		t.Errorf("%s: something was written into it", what)
	}
	for name, m := range handImages() {
		r := runImage(t, m, s)
		if (r.End != impl.EndRefused) != want || !want && !sameResult(r, impl.Result{}) {
			t.Errorf("%s, %s: %s", what, name, resultText(r))
		}
	}
}

// setupFields are the numbers of a setup by their names, with how many of both lists as two more.
var setupFields = map[string]func(s *impl.Setup, n int){
	"half":   func(s *impl.Setup, n int) { s.Half = n },
	"stack":  func(s *impl.Setup, n int) { s.Stack = n },
	"fuel":   func(s *impl.Setup, n int) { s.Fuel = n },
	"input":  func(s *impl.Setup, n int) { s.Input = make([]int, n) },
	"oracle": func(s *impl.Setup, n int) { s.Oracle = make([]int, n) },
}

func TestSetupNumbers(t *testing.T) {
	for _, x := range []struct {
		field string
		want  bool
		list  []int
	}{
		{"half", true, []int{8, 9, 100, 3999, 4000}},
		{"half", false, []int{7, 4001, 0, -1, -8, 8000, math.MinInt, math.MaxInt, 8 + 1<<32, math.MinInt + 8, math.MaxInt / 2, 1 << 62}},
		{"stack", true, []int{16, 17, 100, 1999, 2000}},
		{"stack", false, []int{15, 2001, 0, -1, -16, 11999, math.MinInt, math.MaxInt, 16 + 1<<32, math.MinInt + 16, 1 << 62}},
		{"fuel", true, []int{0, 1, 2, 199999, 200000}},
		{"fuel", false, []int{-1, -2, 200001, math.MinInt, math.MaxInt, 1 << 32, math.MinInt + 100}},
		{"input", true, []int{0, 1, 99, 100}},
		{"input", false, []int{101, 102, 5000}},
		{"oracle", true, []int{0, 1, 1999, 2000}},
		{"oracle", false, []int{2001, 2002, 5000}},
	} {
		for _, n := range x.list {
			s := setupOf(200, 200)
			setupFields[x.field](&s, n)
			wantSetup(t, fmt.Sprint(x.field, " ", n), s, x.want)
		}
	}
	if impl.MinHalf != 8 || impl.MaxHalf != 4000 || impl.MinStack != 16 || impl.MaxStack != 2000 || impl.MaxOracle != 2000 || impl.StackWords != 11999 {
		t.Error("the limits are others")
	}
}

// TestSetupAtAllEnds: all numbers at once are the least ones, and the greatest ones; and then one of them is one more.
func TestSetupAtAllEnds(t *testing.T) {
	least := impl.Setup{Half: impl.MinHalf, Stack: impl.MinStack}
	most := impl.Setup{Half: impl.MaxHalf, Stack: impl.MaxStack, Fuel: impl.MaxFuel, Input: make([]int, impl.MaxInput), Oracle: make([]int, impl.MaxOracle)}
	wantSetup(t, "the least", least, true)
	wantSetup(t, "the greatest", most, true)
	for field, past := range map[string]int{"half": 4001, "stack": 2001, "fuel": 200001, "input": 101, "oracle": 2001} {
		s := most
		setupFields[field](&s, past)
		wantSetup(t, "the greatest, but "+field, s, false)
	}
	for field, past := range map[string]int{"half": 7, "stack": 15, "fuel": -1} {
		s := least
		setupFields[field](&s, past)
		wantSetup(t, "the least, but "+field, s, false)
	}
	wantSetup(t, "the zero value", impl.Setup{}, false)
}

// TestSetupNumbersWithin: what Input and Oracle say may be any number.
func TestSetupNumbersWithin(t *testing.T) {
	ends := []int{math.MinInt, math.MaxInt, -1, 0, 1, 2, 3, 1 << 32}
	s := setupOf(200, 200, ends...)
	s.Input = ends
	wantSetup(t, "numbers of all sorts", s, true)
}

// TestImagesThatAreNotRun: what is not ImageOk is refused, whatever the setup says.
func TestImagesThatAreNotRun(t *testing.T) {
	bad := map[string]impl.Image{
		"the zero image":           {},
		"main with a Param":        imageOf(codeOf(4, 1, mo(impl.MoReturn, 0))),
		"no instruction":           imageOf(impl.Code{Frame: 3}),
		"no such op":               imageOf(codeOf(3, 0, mo(28, 0))),
		"an op below":              imageOf(codeOf(3, 0, mo(-1, 0))),
		"no such register":         imageOf(codeOf(3, 0, impl.Ins{Op: impl.MoCopy, A: 16})),
		"a jump to nowhere":        imageOf(codeOf(3, 0, mo(impl.MoJump, 1))),
		"no such code":             imageOf(codeOf(3, 0, mo(impl.MoCall, 1))),
		"no such struct":           imageOf(codeOf(3, 0, mo(impl.MoNew, 0))),
		"a frame too small":        imageOf(codeOf(2, 0, mo(impl.MoReturn, 0))),
		"a frame too great":        imageOf(codeOf(1001, 0, mo(impl.MoReturn, 0))),
		"no such word":             imageOf(codeOf(3, 0, mo(impl.MoLoad, 3))),
		"a word of the head":       imageOf(codeOf(5, 0, mo(impl.MoStore, 2))),
		"a map lacks":              {Structs: [][]bool{{}}, Codes: []impl.Code{{Frame: 3, Ins: []impl.Ins{mo(impl.MoNew, 0)}}}},
		"a map too many":           {Codes: []impl.Code{{Frame: 3, Ins: []impl.Ins{mo(impl.MoReturn, 0)}, Maps: []impl.Map{{}}}}},
		"no such slot":             {Structs: [][]bool{{}}, Codes: []impl.Code{{Frame: 3, Ins: []impl.Ins{mo(impl.MoNew, 0)}, Maps: []impl.Map{{Slots: []int{3}}}}}},
		"main is no code":          {Codes: []impl.Code{plainCode(1)}, Main: 1},
		"main is below":            {Codes: []impl.Code{plainCode(1)}, Main: -1},
		"a code that no one calls": imageOf(plainCode(1), impl.Code{Frame: 3}),
	}
	for what, m := range bad {
		for _, s := range []impl.Setup{{}, setupOf(100, 100), setupOf(8, 16, 1, 2, 1), {Half: 100, Stack: 100}, setupOf(7, 100), setupOf(100, 15)} {
			if r := runImage(t, m, s); impl.ImageOk(m) || !sameResult(r, impl.Result{}) {
				t.Errorf("%s with %s: %s", what, showSetup(s), resultText(r))
			}
		}
	}
}
