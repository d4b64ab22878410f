package tests

import (
	"fmt"
	"math"
	"testing"

	"loop.example/g00306/impl"
)

// wantInts fails unless ( a op b ) is put out so; a and b are written out, read, and held in variables.
func wantInts(t *testing.T, op string, a int, b int, want string) {
	t.Helper()
	wantRun(t, fmt.Sprintf("func main ( ) { print ( %d %s %d ) ; }", a, op, b), nil, want)
	wantRun(t, fmt.Sprintf("func main ( ) { print ( read %s read ) ; }", op), []int{a, b}, want)
	wantRun(t, fmt.Sprintf("func f ( b int , a int ) int { return ( a %s b ) ; } func main ( ) { print f ( %d , %d ) ; }", op, b, a), nil, want)
}

func TestDivisionAtItsEnds(t *testing.T) {
	for _, x := range []struct {
		a, b, quotient, rest int
	}{
		{7, 2, 3, 1}, {-7, 2, -3, -1}, {7, -2, -3, 1}, {-7, -2, 3, -1}, {6, 3, 2, 0}, {-6, 3, -2, 0}, {1, 2, 0, 1}, {-1, 2, 0, -1}, {1, -2, 0, 1}, {-1, -2, 0, -1}, {0, 5, 0, 0}, {0, -5, 0, 0},
		{math.MinInt, -1, math.MinInt, 0}, {math.MinInt, 1, math.MinInt, 0}, {math.MinInt, 2, math.MinInt / 2, 0}, {math.MinInt, math.MinInt, 1, 0}, {math.MinInt, math.MaxInt, -1, -1},
		{math.MaxInt, -1, -math.MaxInt, 0}, {math.MaxInt, math.MinInt, 0, math.MaxInt}, {math.MaxInt, math.MaxInt, 1, 0}, {math.MinInt + 1, -1, math.MaxInt, 0}, {-1, math.MinInt, 0, -1}, {1, math.MinInt, 0, 1}, {math.MinInt, -2, 1 << 62, 0}, {math.MinInt, 3, -3074457345618258602, -2},
	} {
		wantInts(t, "/", x.a, x.b, fmt.Sprint("exit: ", x.quotient))
		wantInts(t, "%", x.a, x.b, fmt.Sprint("exit: ", x.rest))
	}
	for _, a := range []int{0, 1, -1, 7, math.MinInt, math.MaxInt} {
		wantInts(t, "/", a, 0, "trap zero:")
		wantInts(t, "%", a, 0, "trap zero:")
	}
}

func TestIntsGoRound(t *testing.T) {
	for _, x := range []struct {
		op         string
		a, b, want int
	}{
		{"+", math.MaxInt, 1, math.MinInt}, {"+", math.MinInt, -1, math.MaxInt}, {"+", math.MinInt, math.MinInt, 0}, {"+", math.MaxInt, math.MaxInt, -2}, {"+", math.MaxInt, math.MinInt, -1}, {"+", 3, -5, -2},
		{"-", math.MinInt, 1, math.MaxInt}, {"-", math.MaxInt, -1, math.MinInt}, {"-", 0, math.MinInt, math.MinInt}, {"-", math.MinInt, math.MaxInt, 1}, {"-", -1, math.MinInt, math.MaxInt}, {"-", 3, 5, -2},
		{"*", math.MaxInt, 2, -2}, {"*", math.MinInt, 2, 0}, {"*", math.MinInt, -1, math.MinInt}, {"*", math.MaxInt, math.MaxInt, 1}, {"*", math.MinInt, math.MaxInt, math.MinInt}, {"*", 1 << 32, 1 << 31, math.MinInt}, {"*", 1 << 32, 1 << 32, 0}, {"*", 3037000500, 3037000500, -9223372036709301616}, {"*", -3, 5, -15},
		{"<", math.MinInt, math.MaxInt, 1}, {"<", math.MaxInt, math.MinInt, 0}, {"<", math.MinInt, math.MinInt, 0}, {"<", math.MaxInt, math.MaxInt, 0}, {"<", math.MinInt, math.MinInt + 1, 1}, {"<", -1, 0, 1}, {"<", 0, -1, 0}, {"<", math.MaxInt - 1, math.MaxInt, 1},
		{"==", math.MinInt, math.MinInt, 1}, {"==", math.MaxInt, math.MinInt, 0}, {"==", math.MaxInt, math.MaxInt, 1}, {"==", math.MaxInt, math.MaxInt - 1, 0}, {"==", 0, 0, 1}, {"==", -1, 1, 0}, {"==", 1 << 53, 1<<53 + 1, 0},
	} {
		wantInts(t, x.op, x.a, x.b, fmt.Sprint("exit: ", x.want))
	}
}

// TestAllPairsOfInts holds the ends and some others against the model, with each op.
func TestAllPairsOfInts(t *testing.T) {
	ends := []int{0, 1, -1, 2, -2, 7, -7, 1 << 31, 1 << 32, -1 << 32, 1<<53 + 1, math.MaxInt, math.MaxInt - 1, math.MinInt, math.MinInt + 1}
	ends = append(ends, spread(5)...)
	for _, op := range []string{"+", "-", "*", "/", "%", "<", "=="} {
		s := wellTyped(t, "func main ( ) { print ( read "+op+" read ) ; }")
		for _, a := range ends {
			for _, b := range ends {
				run(t, s, []int{a, b})
			}
		}
	}
}

// TestIfOfAnyInt: all but 0 hold.
func TestIfOfAnyInt(t *testing.T) {
	for _, n := range []int{1, -1, 2, math.MinInt, math.MaxInt, 1 << 32, 0} {
		want := "exit: 1"
		if n == 0 {
			want = "exit: 2"
		}
		wantRun(t, "func main ( ) { if read { print 1 ; } else { print 2 ; } }", []int{n}, want)
		wantRun(t, "func main ( ) { for read { print 1 ; return ; } print 2 ; }", []int{n}, want)
	}
}

// floatEnds are both noughts, both infinities, what is no number, and others.
func floatEnds() []int {
	return append(numberBits(), noNumber)
}

func floatWord(bits int) string {
	return fmt.Sprintf("0f%016x", uint64(bits))
}

// TestAllPairsOfFloats works out each op by Go's floats, and by the model.
func TestAllPairsOfFloats(t *testing.T) {
	for _, a := range floatEnds() {
		for _, b := range floatEnds() {
			x, y := math.Float64frombits(uint64(a)), math.Float64frombits(uint64(b))
			text := "func main ( ) { var a float ; var b float ; a = " + floatWord(a) + " ; b = " + floatWord(b) + " ; print ( a + b ) ; print ( a - b ) ; print ( a * b ) ; print ( a / b ) ; print ( a < b ) ; print ( a == b ) ; }"
			want := "exit:"
			for _, f := range []float64{x + y, x - y, x * y, x / y} {
				want += " " + floatWord(modelBits(f))
			}
			want += fmt.Sprint(" ", modelTruth(x < y), " ", modelTruth(x == y))
			o := impl.Eval(wellTyped(t, text), nil, 1000)
			if plainText(o) != want {
				t.Errorf("%s\n%s\nwant %s", text, plainText(o), want)
			}
		}
	}
}

// TestFloatsByHand are those whose answers are known without working them out.
func TestFloatsByHand(t *testing.T) {
	nought, minus, inf, minusI, none, one := floatWord(plusNought), floatWord(minusNought), floatWord(plusInf), floatWord(minusInf), floatWord(noNumber), "0f3ff0000000000000"
	for _, x := range [][4]string{
		{nought, "+", minus, nought}, {minus, "+", minus, minus}, {nought, "-", nought, nought}, {minus, "-", nought, minus}, {nought, "*", minus, minus}, {minus, "*", minus, nought},
		{one, "/", nought, inf}, {one, "/", minus, minusI}, {nought, "/", nought, none}, {minus, "/", nought, none}, {inf, "/", inf, none}, {one, "/", inf, nought}, {one, "/", minusI, minus},
		{inf, "-", inf, none}, {inf, "+", minusI, none}, {inf, "+", inf, inf}, {inf, "*", nought, none}, {inf, "*", minusI, minusI}, {none, "+", one, none}, {one, "*", none, none}, {none, "/", none, none},
		{nought, "==", minus, "1"}, {nought, "<", minus, "0"}, {minus, "<", nought, "0"}, {inf, "==", inf, "1"}, {inf, "==", minusI, "0"}, {minusI, "<", inf, "1"}, {inf, "<", inf, "0"}, {none, "==", none, "0"}, {none, "<", none, "0"}, {none, "<", one, "0"}, {one, "<", none, "0"}, {none, "==", one, "0"},
		{floatWord(greatest), "+", floatWord(greatest), inf}, {floatWord(tiniest), "/", "0f4000000000000000", nought}, {"0f3fb999999999999a", "+", "0f3fc999999999999a", "0f3fd3333333333334"},
	} {
		wantRun(t, fmt.Sprintf("func main ( ) { print ( %s %s %s ) ; }", x[0], x[1], x[2]), nil, "exit: "+x[3])
	}
}

// TestFloatsKept: their bits come back from variables, fields, lists, calls.
func TestFloatsKept(t *testing.T) {
	heads := "type P struct { a float ; } func id ( x float ) float { return x ; }"
	for _, bits := range floatEnds() {
		x := floatWord(bits)
		wantRun(t, mainText(heads, "print "+x+" ; var v float ; v = "+x+" ; print v ; var p * P ; p = new P ; p . a = v ; print p . a ; var l [ ] float ; l = make [ ] float ( 2 ) ; l [ 1 ] = p . a ; print l [ 1 ] ; print id ( l [ 1 ] ) ; print l [ 0 ] ;"), nil,
			fmt.Sprintf("exit: %s %s %s %s %s 0f0000000000000000", x, x, x, x, x))
	}
}

func TestConversionsAtTheirEnds(t *testing.T) {
	for _, x := range []struct {
		bits, want int
	}{
		{plusNought, 0}, {minusNought, 0}, {noNumber, 0}, {plusInf, math.MaxInt}, {minusInf, math.MinInt}, {greatest, math.MaxInt}, {least, math.MinInt}, {tiniest, 0},
		{modelBits(2.9), 2}, {modelBits(-2.9), -2}, {modelBits(0.999), 0}, {modelBits(-0.999), 0}, {modelBits(1 << 63), math.MaxInt}, {modelBits(-1 << 63), math.MinInt}, {modelBits(1<<63 - 1024), 1<<63 - 1024}, {modelBits(-1<<63 - 2048), math.MinInt}, {modelBits(two53), two53}, {modelBits(1e18), 1000000000000000000},
	} {
		wantRun(t, "func main ( ) { print int ( "+floatWord(x.bits)+" ) ; }", nil, fmt.Sprint("exit: ", x.want))
	}
	for _, x := range []struct {
		n    int
		want float64
	}{{0, 0}, {1, 1}, {-1, -1}, {two53, two53}, {two53 + 1, two53}, {two53 + 3, two53 + 4}, {math.MaxInt, 1 << 63}, {math.MinInt, -1 << 63}, {math.MaxInt - 511, 1 << 63}, {math.MaxInt - 512, 1<<63 - 1024}, {math.MaxInt - 1023, 1<<63 - 1024}} {
		wantRun(t, "func main ( ) { print float ( read ) ; }", []int{x.n}, "exit: "+floatWord(modelBits(x.want)))
	}
	for _, bits := range floatEnds() {
		run(t, wellTyped(t, "func main ( ) { print int ( "+floatWord(bits)+" ) ; print float ( int ( "+floatWord(bits)+" ) ) ; }"), nil)
	}
	wantRun(t, "func main ( ) { print int ( float ( read ) ) ; print float ( int ( 0fc004000000000000 ) ) ; }", []int{-12345}, "exit: -12345 0fc000000000000000")
}

func TestRead(t *testing.T) {
	three := "print read ; print read ; print read ;"
	for _, x := range []struct {
		input []int
		want  string
	}{
		{nil, "exit: 0 0 0"}, {[]int{}, "exit: 0 0 0"}, {[]int{5}, "exit: 5 0 0"}, {[]int{5, 6}, "exit: 5 6 0"}, {[]int{5, 6, 7}, "exit: 5 6 7"}, {[]int{5, 6, 7, 8}, "exit: 5 6 7"},
		{[]int{0, -1}, "exit: 0 -1 0"}, {[]int{math.MinInt, math.MaxInt}, fmt.Sprint("exit: ", math.MinInt, " ", math.MaxInt, " 0")},
	} {
		wantRun(t, mainText("", three), x.input, x.want)
	}
	// A call reads on where its caller was, and the caller behind it.
	wantRun(t, "func f ( ) int { return ( read - read ) ; } func main ( ) { print read ; print f ( ) ; print read ; print f ( ) ; }", []int{1, 20, 3, 4, 5}, "exit: 1 17 4 5")
	// What is not done does not read.
	wantRun(t, "func main ( ) { if 0 { print read ; } else { } for 0 { print read ; } print read ; }", []int{1, 2}, "exit: 1")
}

func TestPrint(t *testing.T) {
	wantRuns(t, "", []int{7}, [][2]string{
		{"", "exit:"},
		{"print 0 ; print -1 ; print 9223372036854775807 ; print -9223372036854775808 ;", "exit: 0 -1 9223372036854775807 -9223372036854775808"},
		{"print 0f0000000000000000 ; print 0f8000000000000000 ; print 0f7ff0000000000000 ; print 0ffff0000000000000 ; print 0f7ff8000000000001 ;", "exit: 0f0000000000000000 0f8000000000000000 0f7ff0000000000000 0ffff0000000000000 0f7ff8000000000001"},
		{"print read ; print float ( 1 ) ; print int ( 0f3ff0000000000000 ) ;", "exit: 7 0f3ff0000000000000 1"},
	})
	o := run(t, wellTyped(t, "func main ( ) { print 3 ; print 0f4008000000000000 ; }"), nil)
	want := []impl.Item{{Kind: 0, N: 3}, {Kind: 1, N: int(math.Float64bits(3))}}
	if !sameOutcome(o, impl.Outcome{End: impl.EndExit, Out: want, Steps: 4}) {
		t.Errorf("%+v", o)
	}
}
