package tests

import (
	"fmt"
	"math"
	"strings"
	"testing"

	"loop.example/g00306/impl"
)

// TestRegistersAtFirst: all are 0, and so are all words of the first frame.
func TestRegistersAtFirst(t *testing.T) {
	text := "code main 30 0\n"
	for n := range impl.AllRegs {
		text += fmt.Sprintf("print r%d\n", n)
	}
	for n := impl.Head; n < 30; n++ {
		text += fmt.Sprintf("load r1 %d; print r1\n", n)
	}
	wantMachine(t, text+"return", roomySetup(), "exit in 71: "+strings.TrimSpace(strings.Repeat("0 ", 16+27)))
}

// TestEachRegister: one is set, the others stay.
func TestEachRegister(t *testing.T) {
	text, want := "code main 3 0\n", []string{}
	for n := range impl.AllRegs {
		text += fmt.Sprintf("int r%d %d\n", n, 100+n)
		want = append(want, fmt.Sprint(100+n))
	}
	text += "copy r9 r4; copy r4 r4; int r0 -1\n"
	want[9], want[0] = "104", "-1"
	for n := range impl.AllRegs {
		text += fmt.Sprintf("print r%d\n", n)
	}
	wantMachine(t, text+"return", roomySetup(), "exit in 36: "+strings.Join(want, " "))
}

func TestIntAndCopy(t *testing.T) {
	for _, n := range []int{math.MinInt, math.MinInt + 1, -1 << 32, -1, 0, 1, 255, 256, 1 << 32, 12000, math.MaxInt - 1, math.MaxInt} {
		text := fmt.Sprintf("code main 3 0; int r15 %d; print r15; copy r0 r15; print r0; return", n)
		wantMachine(t, text, roomySetup(), fmt.Sprintf("exit in 5: %d %d", n, n))
	}
}

// TestLoadAndStore: at the first word behind the head, at the last word of the frame, and between.
func TestLoadAndStore(t *testing.T) {
	for _, frame := range []int{4, 5, 6, 20, 300, impl.MaxFrame} {
		text := fmt.Sprintf("code main %d 0; int r1 5; store r1 3; int r2 -6; store r2 %d; load r3 3; print r3; load r4 %d; print r4; print r1; return", frame, frame-1, frame-1)
		first := 5
		if frame == 4 {
			first = -6
		}
		wantMachine(t, text, setupOf(8, 2000), fmt.Sprintf("exit in 10: %d -6 5", first))
	}
	// All of them at once keep what is theirs.
	text, want := "code main 40 0\n", ""
	for n := impl.Head; n < 40; n++ {
		text += fmt.Sprintf("int r1 %d; store r1 %d\n", n*n, n)
	}
	for n := impl.Head; n < 40; n++ {
		text += fmt.Sprintf("load r2 %d; print r2\n", n)
		want += fmt.Sprint(" ", n*n)
	}
	wantMachine(t, text+"return", roomySetup(), "exit in 149:"+want)
}

// intsEnds are ints at their ends and some others.
func intsEnds() []int {
	return []int{0, 1, -1, 2, -2, 7, -7, 1 << 31, 1 << 32, 1<<53 + 1, math.MaxInt, math.MaxInt - 1, math.MinInt, math.MinInt + 1}
}

func TestMachineArith(t *testing.T) {
	wantOf := func(op string, a int, b int, want string) {
		t.Helper()
		wantMachine(t, fmt.Sprintf("code main 3 0; int r1 %d; int r2 %d; %s r3 r1 r2; print r3; return", a, b, op), roomySetup(), want)
	}
	for _, x := range []struct {
		op         string
		a, b, want int
	}{
		{"add", 3, 4, 7}, {"add", math.MaxInt, 1, math.MinInt}, {"sub", 3, 4, -1}, {"sub", math.MinInt, 1, math.MaxInt},
		{"mul", -3, 4, -12}, {"mul", math.MaxInt, 2, -2}, {"mul", math.MinInt, -1, math.MinInt},
		{"div", 7, 2, 3}, {"div", -7, 2, -3}, {"div", 7, -2, -3}, {"div", math.MinInt, -1, math.MinInt}, {"div", 0, 5, 0},
		{"rem", 7, 2, 1}, {"rem", -7, 2, -1}, {"rem", 7, -2, 1}, {"rem", math.MinInt, -1, 0}, {"rem", 0, 5, 0},
		{"less", 3, 4, 1}, {"less", 4, 3, 0}, {"less", 4, 4, 0}, {"less", math.MinInt, math.MaxInt, 1},
		{"eq", 4, 4, 1}, {"eq", 4, 3, 0}, {"eq", math.MinInt, math.MaxInt, 0},
		{"add", 0, 0, 0}, {"sub", 5, 0, 5}, {"mul", 5, 0, 0}, {"less", 5, 0, 0}, {"eq", 0, 0, 1},
	} {
		wantOf(x.op, x.a, x.b, fmt.Sprint("exit in 5: ", x.want))
	}
	for _, a := range intsEnds() {
		wantOf("div", a, 0, "stuck in 3:")
		wantOf("rem", a, 0, "stuck in 3:")
	}
}

// TestMachinePairs holds all ops of ints and floats against the model, with the ends of both.
func TestMachinePairs(t *testing.T) {
	t.Parallel()
	pairs := func(words []string, numbers []int) {
		for _, op := range words {
			m := machineOf("code main 3 0; read r1; read r2; " + op + " r3 r1 r2; print r3; return")
			for _, a := range numbers {
				for _, b := range numbers {
					runMachine(t, m, roomySetup(a, b))
				}
			}
		}
	}
	pairs([]string{"add", "sub", "mul", "div", "rem", "less", "eq", "same"}, intsEnds())
	pairs([]string{"fadd", "fsub", "fmul", "fdiv", "fless", "feq", "same"}, floatEnds())
}

// otherNoNumber has the bits of what is no number, but not those that the program gives to all of these.
const otherNoNumber = -1

func TestMachineDec(t *testing.T) {
	one, two, three := modelBits(1), modelBits(2), modelBits(3)
	for _, x := range []struct {
		op         string
		a, b, want int
	}{
		{"fadd", one, two, three}, {"fsub", three, one, two}, {"fmul", two, two, modelBits(4)}, {"fdiv", three, two, modelBits(1.5)},
		{"fless", one, two, 1}, {"fless", two, one, 0}, {"fless", one, one, 0}, {"feq", one, one, 1}, {"feq", one, two, 0},
		{"feq", plusNought, minusNought, 1}, {"fless", minusNought, plusNought, 0}, {"fless", plusNought, minusNought, 0},
		{"fadd", minusNought, minusNought, minusNought}, {"fadd", plusNought, minusNought, plusNought}, {"fsub", plusNought, plusNought, plusNought},
		{"fmul", minusNought, one, minusNought}, {"fdiv", one, plusNought, plusInf}, {"fdiv", one, minusNought, minusInf}, {"fdiv", plusNought, minusNought, noNumber},
		{"fadd", noNumber, one, noNumber}, {"fadd", one, otherNoNumber, noNumber}, {"fsub", plusInf, plusInf, noNumber}, {"fmul", plusInf, plusNought, noNumber},
		{"feq", noNumber, noNumber, 0}, {"fless", noNumber, one, 0}, {"fless", one, otherNoNumber, 0}, {"feq", otherNoNumber, otherNoNumber, 0},
		{"fadd", greatest, greatest, plusInf}, {"fless", minusInf, least, 1}, {"same", plusNought, minusNought, 0}, {"same", otherNoNumber, otherNoNumber, 1},
	} {
		text := fmt.Sprintf("code main 3 0; int r1 %d; int r2 %d; %s r3 r1 r2; print r3; return", x.a, x.b, x.op)
		wantMachine(t, text, roomySetup(), fmt.Sprint("exit in 5: ", x.want))
	}
}

func TestMachineConversions(t *testing.T) {
	for _, x := range []struct{ bits, want int }{
		{plusNought, 0}, {minusNought, 0}, {noNumber, 0}, {otherNoNumber, 0}, {plusInf, math.MaxInt}, {minusInf, math.MinInt}, {greatest, math.MaxInt}, {least, math.MinInt}, {tiniest, 0},
		{modelBits(2.9), 2}, {modelBits(-2.9), -2}, {modelBits(1 << 63), math.MaxInt}, {modelBits(-1 << 63), math.MinInt}, {modelBits(1<<63 - 1024), 1<<63 - 1024}, {modelBits(-1<<63 - 2048), math.MinInt},
	} {
		wantMachine(t, fmt.Sprintf("code main 3 0; int r1 %d; toint r2 r1; print r2; return", x.bits), roomySetup(), fmt.Sprint("exit in 4: ", x.want))
	}
	for _, x := range []struct {
		n    int
		want float64
	}{{0, 0}, {1, 1}, {-1, -1}, {two53, two53}, {two53 + 1, two53}, {two53 + 3, two53 + 4}, {math.MaxInt, 1 << 63}, {math.MinInt, -1 << 63}, {math.MaxInt - 512, 1<<63 - 1024}} {
		wantMachine(t, fmt.Sprintf("code main 3 0; int r1 %d; tofloat r2 r1; printf r2; return", x.n), roomySetup(), "exit in 4: "+floatWord(modelBits(x.want)))
	}
	for _, bits := range append(floatEnds(), intsEnds()...) {
		runMachine(t, machineOf("code main 3 0; read r1; toint r2 r1; print r2; tofloat r2 r1; printf r2; return"), roomySetup(bits))
	}
}

func TestMachineSame(t *testing.T) {
	for _, a := range intsEnds() {
		for _, b := range intsEnds() {
			wantMachine(t, "code main 3 0; read r1; read r2; same r3 r1 r2; print r3; return", roomySetup(a, b), fmt.Sprint("exit in 5: ", modelTruth(a == b)))
		}
	}
	// Places are words as others are.
	wantMachine(t, "struct; code main 3 0; new r1 0; new r2 0; same r3 r1 r2; print r3; same r3 r1 r1; print r3; int r4 12001; same r3 r2 r4; print r3; return", roomySetup(), "exit in 10: 0 1 1")
}

func TestMachineJumps(t *testing.T) {
	wantMachines(t, "code main 3 0", roomySetup(), [][2]string{
		{"int r1 0; if r1 a; print r1; return; a :; int r2 7; print r2; return", "exit in 5: 7"},
		{"int r1 1; if r1 a; print r1; return; a :; int r2 7; print r2; return", "exit in 4: 1"},
		{"int r1 -1; if r1 a; print r1; return; a :; int r2 7; print r2; return", "exit in 4: -1"},
		{"int r1 -9223372036854775808; if r1 a; print r1; return; a :; return", "exit in 4: -9223372036854775808"},
		{"int r1 4294967296; if r1 a; print r1; return; a :; return", "exit in 4: 4294967296"},
		{"jump a; print r1; a :; return", "exit in 2:"},
		{"jump b; a :; return; b :; print r1; jump a", "exit in 4: 0"},
		{"int r1 3; int r2 1; a :; print r1; sub r1 r1 r2; if r1 b; jump a; b :; return", "exit in 14: 3 2 1"},
		{"a :; jump a", "fuel in 5000:"},
		{"print r1; a :; if r0 a; return", "fuel in 5000: 0"},
		{"if r0 a; a :; return", "exit in 2:"},
	})
}

func TestMachineReadAndPrint(t *testing.T) {
	three := "code main 3 0; read r1; print r1; read r2; print r2; read r1; print r1; return"
	for _, x := range []struct {
		input []int
		want  string
	}{
		{nil, "0 0 0"}, {[]int{5}, "5 0 0"}, {[]int{5, 6}, "5 6 0"}, {[]int{5, 6, 7}, "5 6 7"}, {[]int{5, 6, 7, 8}, "5 6 7"}, {[]int{math.MinInt, math.MaxInt, -1}, fmt.Sprint(math.MinInt, " ", math.MaxInt, " -1")},
	} {
		wantMachine(t, three, roomySetup(x.input...), "exit in 7: "+x.want)
	}
	input := make([]int, impl.MaxInput)
	want := ""
	for n := range input {
		input[n] = n*n - 50
		want += fmt.Sprint(" ", input[n])
	}
	// What was read last is not read once more.
	wantMachine(t, "code main 3 0\n"+strings.Repeat("read r1; print r1\n", 102)+"return", roomySetup(input...), "exit in 205:"+want+" 0 0")
	for _, n := range append(intsEnds(), otherNoNumber, noNumber) {
		r := runMachine(t, machineOf("code main 3 0; read r1; print r1; printf r1; return"), roomySetup(n))
		if !sameResult(r, impl.Result{End: impl.EndExit, Steps: 4, Out: []impl.Item{{Kind: 0, N: n}, {Kind: 1, N: n}}}) {
			t.Errorf("%d: %s", n, resultText(r))
		}
	}
}

func TestMachinePanics(t *testing.T) {
	for _, code := range []int{0, 1, -1, impl.TrapNil, impl.TrapIndex, impl.TrapZero, impl.TrapMake, 7, math.MinInt, math.MaxInt} {
		r := runMachine(t, machineOf(fmt.Sprintf("code main 3 0; int r9 %d; int r1 8; panic r9; print r1; return", code)), roomySetup())
		if !sameResult(r, impl.Result{End: impl.EndPanic, Code: code, Steps: 3}) {
			t.Errorf("%d: %+v", code, r)
		}
	}
	wantMachine(t, "code main 3 0; print r1; call f; print r1; return; code f 3 0; int r1 4; print r1; panic r1", roomySetup(), "panic 4 in 5: 0 4")
}

// TestMachineReturns: of the first frame and of another one, with a result and without one.
func TestMachineReturns(t *testing.T) {
	wantMachines(t, "", roomySetup(), [][2]string{
		{"code main 3 0; return; print r0", "exit in 1:"},
		{"code main 3 0; int r3 5; result r3; print r0", "exit in 2:"},
		{"code main 3 0; int r0 4; call f; print r0; print r3; return; code f 3 0; int r3 5; return", "exit in 7: 4 5"},
		{"code main 3 0; int r0 4; call f; print r0; print r3; return; code f 3 0; int r3 5; result r3", "exit in 7: 5 5"},
		{"code main 3 0; int r0 4; call f; print r0; return; code f 3 0; result r0", "exit in 5: 4"},
		{"code f 3 0; result r7; code main 3 0; int r7 -8; int r0 4; call f; print r0; print r7; return", "exit in 7: -8 -8"},
	})
}

// TestSameRegisterTwice: what is made is set behind what was looked at.
func TestSameRegisterTwice(t *testing.T) {
	wantMachines(t, "struct * .\ncode main 5 0", roomySetup(), [][2]string{
		{"int r1 5; add r1 r1 r1; print r1; mul r1 r1 r1; print r1; sub r1 r1 r1; print r1; return", "exit in 8: 10 100 0"},
		{"int r1 5; eq r1 r1 r1; print r1; less r1 r1 r1; print r1; same r1 r1 r1; print r1; return", "exit in 8: 1 0 1"},
		{"int r1 5; tofloat r1 r1; printf r1; fadd r1 r1 r1; printf r1; toint r1 r1; print r1; return", "exit in 8: 0f4014000000000000 0f4024000000000000 10"},
		{"int r1 3; ints r1 r1; print r1; len r1 r1; print r1; return", "exit in 6: 12000 3"},
		{"new r1 0; putf r1 r1 1; getf r1 r1 1; print r1; return", "exit in 5: 12000"},
		{"int r1 1; ptrs r2 r1; int r1 0; pute r2 r1 r2; gete r2 r2 r1; print r2; gete r1 r2 r1; print r1; return", "exit in 9: 12000 12000"},
	})
}
