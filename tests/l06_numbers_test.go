package tests

import (
	"fmt"
	"math"
	"testing"

	"loop.example/g00306/impl"
)

// wantArith fails unless a VaArith of two ints ends so; both are made there, read, and brought by a call.
func wantArith(t *testing.T, op string, a int, b int, want string) {
	t.Helper()
	wantOutcomeOf(t, fmt.Sprintf("fn main; a = int %d; b = int %d; c = %s a b; print c; return", a, b, op), nil, want)
	wantOutcomeOf(t, fmt.Sprintf("fn main; a = read; b = read; c = %s a b; print c; return", op), []int{a, b}, want)
}

func TestDivisionInUnits(t *testing.T) {
	for _, x := range []struct {
		a, b, quotient, rest int
	}{
		{7, 2, 3, 1}, {-7, 2, -3, -1}, {7, -2, -3, 1}, {-7, -2, 3, -1}, {6, 3, 2, 0}, {-6, 3, -2, 0}, {1, 2, 0, 1}, {-1, 2, 0, -1}, {1, -2, 0, 1}, {-1, -2, 0, -1}, {0, 5, 0, 0}, {0, -5, 0, 0},
		{math.MinInt, -1, math.MinInt, 0}, {math.MinInt, 1, math.MinInt, 0}, {math.MinInt, 2, math.MinInt / 2, 0}, {math.MinInt, math.MinInt, 1, 0}, {math.MinInt, math.MaxInt, -1, -1},
		{math.MaxInt, -1, -math.MaxInt, 0}, {math.MaxInt, math.MinInt, 0, math.MaxInt}, {math.MaxInt, math.MaxInt, 1, 0}, {math.MinInt + 1, -1, math.MaxInt, 0}, {-1, math.MinInt, 0, -1}, {math.MinInt, -2, 1 << 62, 0}, {math.MinInt, 3, -3074457345618258602, -2},
	} {
		wantArith(t, "div", x.a, x.b, fmt.Sprint("exit in 5: ", x.quotient))
		wantArith(t, "rem", x.a, x.b, fmt.Sprint("exit in 5: ", x.rest))
	}
	// A divisor 0: with its check it is a trap, without it can't be done. What is no divisor may be 0.
	for _, a := range []int{0, 1, -1, 7, math.MinInt, math.MaxInt} {
		for _, op := range []string{"div", "rem"} {
			wantArith(t, op, a, 0, "stuck in 3:")
			wantOutcomeOf(t, fmt.Sprintf("fn main; a = int %d; b = int 0; zerocheck b; c = %s a b; print c; return", a, op), nil, "trap zero in 3:")
			wantOutcomeOf(t, fmt.Sprintf("fn main; a = int %d; b = int 3; zerocheck b; c = %s a b; return", a, op), nil, "exit in 5:")
		}
		wantArith(t, "add", a, 0, fmt.Sprint("exit in 5: ", a))
		wantArith(t, "sub", a, 0, fmt.Sprint("exit in 5: ", a))
		wantArith(t, "mul", a, 0, "exit in 5: 0")
		wantArith(t, "less", a, 0, fmt.Sprint("exit in 5: ", modelTruth(a < 0)))
		wantArith(t, "eq", a, 0, fmt.Sprint("exit in 5: ", modelTruth(a == 0)))
	}
}

func TestArithGoesRound(t *testing.T) {
	for _, x := range []struct {
		op         string
		a, b, want int
	}{
		{"add", math.MaxInt, 1, math.MinInt}, {"add", math.MinInt, -1, math.MaxInt}, {"add", math.MinInt, math.MinInt, 0}, {"add", math.MaxInt, math.MaxInt, -2}, {"add", 3, -5, -2},
		{"sub", math.MinInt, 1, math.MaxInt}, {"sub", math.MaxInt, -1, math.MinInt}, {"sub", 0, math.MinInt, math.MinInt}, {"sub", 3, 5, -2},
		{"mul", math.MaxInt, 2, -2}, {"mul", math.MinInt, 2, 0}, {"mul", math.MinInt, -1, math.MinInt}, {"mul", math.MaxInt, math.MaxInt, 1}, {"mul", 3037000500, 3037000500, -9223372036709301616}, {"mul", -3, 5, -15},
		{"less", math.MinInt, math.MaxInt, 1}, {"less", math.MaxInt, math.MinInt, 0}, {"less", math.MinInt, math.MinInt, 0}, {"less", -1, 0, 1}, {"less", 0, -1, 0}, {"less", 2, 3, 1}, {"less", 3, 2, 0},
		{"eq", math.MinInt, math.MinInt, 1}, {"eq", math.MaxInt, math.MinInt, 0}, {"eq", math.MaxInt, math.MaxInt - 1, 0}, {"eq", 1 << 53, 1<<53 + 1, 0}, {"eq", -1, 1, 0},
	} {
		wantArith(t, x.op, x.a, x.b, fmt.Sprint("exit in 5: ", x.want))
	}
}

// TestAllPairsInUnits holds each op of all ends against the model, or against Go's floats.
func TestAllPairsInUnits(t *testing.T) {
	ends := append([]int{0, 1, -1, 2, -2, 7, -7, 1 << 32, -1 << 32, 1<<53 + 1, math.MaxInt, math.MaxInt - 1, math.MinInt, math.MinInt + 1}, spread(3)...)
	for _, op := range arithWords {
		u := unitOf("fn main; a = read; b = read; c = " + op + " a b; print c; return")
		for _, a := range ends {
			for _, b := range ends {
				runWhole(t, u, []int{a, b})
			}
		}
	}
	u := unitOf("fn main; a = float 0; b = float 0; c = fadd a b; d = fsub a b; e = fmul a b; f = fdiv a b; g = fless a b; h = feq a b; print c; print d; print e; print f; print g; print h; return")
	for _, a := range floatEnds() {
		for _, b := range floatEnds() {
			x, y := math.Float64frombits(uint64(a)), math.Float64frombits(uint64(b))
			u.Fns[0].Vals[0].N, u.Fns[0].Vals[1].N = a, b
			want := "exit in 15:"
			for _, f := range []float64{x + y, x - y, x * y, x / y} {
				want += " " + floatWord(modelBits(f))
			}
			want += fmt.Sprint(" ", modelTruth(x < y), " ", modelTruth(x == y))
			if got := outcomeText(impl.RunUnit(u, nil, 100)); got != want {
				t.Errorf("%v and %v: %s, want %s", x, y, got, want)
			}
		}
	}
}

// TestDecByHand are floats whose answers are known without working them out.
func TestDecByHand(t *testing.T) {
	inf, minusI, none := floatWord(plusInf), floatWord(minusInf), floatWord(noNumber)
	nought, minus, one := floatWord(plusNought), floatWord(minusNought), floatWord(0x3FF0000000000000)
	for _, x := range [][4]string{
		{"fadd", "0", "-0", nought}, {"fadd", "-0", "-0", minus}, {"fsub", "-0", "0", minus}, {"fmul", "0", "-0", minus}, {"fmul", "-0", "-0", nought},
		{"fdiv", "1", "0", inf}, {"fdiv", "1", "-0", minusI}, {"fdiv", "0", "0", none}, {"fdiv", "inf", "inf", none}, {"fdiv", "1", "-inf", minus}, {"fdiv", "2", "2", one},
		{"fsub", "inf", "inf", none}, {"fadd", "inf", "-inf", none}, {"fmul", "inf", "0", none}, {"fadd", "nan", "1", none}, {"fmul", "1", "nan", none},
		{"feq", "0", "-0", "1"}, {"fless", "0", "-0", "0"}, {"fless", "-0", "0", "0"}, {"feq", "inf", "inf", "1"}, {"fless", "-inf", "inf", "1"}, {"feq", "nan", "nan", "0"}, {"fless", "nan", "1", "0"}, {"fless", "1", "nan", "0"},
		{"fless", "1", "2", "1"}, {"fless", "2", "1", "0"}, {"feq", "1.5", "1.5", "1"}, {"feq", "1.5", "1.25", "0"}, {"fadd", "0.1", "0.2", "0f3fd3333333333334"},
	} {
		wantOutcomeOf(t, fmt.Sprintf("fn main; a = float %s; b = float %s; c = %s a b; print c; return", x[1], x[2], x[0]), nil, "exit in 5: "+x[3])
	}
}

func TestConversionsInUnits(t *testing.T) {
	for _, x := range []struct {
		float string
		want  int
	}{
		{"0", 0}, {"-0", 0}, {"1.9", 1}, {"-1.9", -1}, {"0.5", 0}, {"-0.5", 0}, {"nan", 0}, {"inf", math.MaxInt}, {"-inf", math.MinInt}, {"9223372036854775807", math.MaxInt}, {"9223372036854775808", math.MaxInt},
		{"9223372036854774784", 9223372036854774784}, {"-9223372036854775808", math.MinInt}, {"-9223372036854777856", math.MinInt}, {"1e300", math.MaxInt}, {"-1e300", math.MinInt}, {"4e-324", 0},
	} {
		wantOutcomeOf(t, fmt.Sprintf("fn main; a = float %s; b = toint a; print b; return", x.float), nil, fmt.Sprint("exit in 4: ", x.want))
	}
	for _, n := range []int{0, 1, -1, 3, 1 << 53, 1<<53 + 1, -1<<53 - 1, 1<<62 + 1, math.MaxInt, math.MinInt, math.MinInt + 1} {
		wantOutcomeOf(t, "fn main; a = read; b = tofloat a; print b; return", []int{n}, "exit in 4: "+floatWord(modelBits(float64(n))))
	}
}

// TestPrintsOfUnits: an int as it is, a float by its bits, with its Kind.
func TestPrintsOfUnits(t *testing.T) {
	for _, n := range []int{0, 1, -1, math.MinInt, math.MaxInt, noNumber} {
		o := runWhole(t, unitOf("fn main; x = read; print x; return"), []int{n})
		if len(o.Out) != 1 || o.Out[0] != (impl.Item{N: n}) {
			t.Errorf("%d: %+v", n, o)
		}
	}
	for _, bits := range floatEnds() {
		u := unitOf("fn main; x = float 0; print x; jump a x; a y:float :; print y; return")
		u.Fns[0].Vals[0].N = bits
		o := runWhole(t, u, nil)
		if len(o.Out) != 2 || o.Out[0] != (impl.Item{Kind: 1, N: bits}) || o.Out[1] != o.Out[0] {
			t.Errorf("%s: %+v", floatWord(bits), o)
		}
	}
}

// TestIfsOfAnyInt: all but 0 go by the first edge.
func TestIfsOfAnyInt(t *testing.T) {
	for _, n := range []int{1, -1, 2, math.MinInt, math.MaxInt, 1 << 32, 0} {
		want := fmt.Sprint("exit in 4: ", n)
		if n == 0 {
			want = "exit in 3:"
		}
		wantOutcomeOf(t, "fn main; x = read; if x a b; a :; print x; return; b :; return", []int{n}, want)
	}
}
