package tests

import (
	"fmt"
	"math"
	"testing"

	"loop.example/g00306/impl"
)

// wantFoldedInt fails unless a VaArith of two ints is folded to a third.
func wantFoldedInt(t *testing.T, op string, a int, b int, want int) {
	t.Helper()
	wantTrimmed(t, "f", fmt.Sprintf("fn main; a = int %d; b = int %d; x = %s a b; print x; return", a, b, op),
		fmt.Sprintf("b0; 0:int = int %d; 1:int = int %d; 2:int = int %d; 3 = print 2; return", a, b, want))
}

func TestFoldOfInts(t *testing.T) {
	const least, most = math.MinInt, math.MaxInt
	for _, x := range []struct {
		op         string
		a, b, want int
	}{
		{"add", 2, 3, 5}, {"add", most, 1, least}, {"add", least, -1, most}, {"add", least, least, 0}, {"add", 0, 0, 0},
		{"sub", 2, 3, -1}, {"sub", least, 1, most}, {"sub", 0, least, least}, {"sub", most, -1, least},
		{"mul", -3, 5, -15}, {"mul", most, 2, -2}, {"mul", least, -1, least}, {"mul", most, most, 1}, {"mul", 7, 0, 0},
		{"div", 7, 2, 3}, {"div", -7, 2, -3}, {"div", 7, -2, -3}, {"div", -7, -2, 3}, {"div", least, -1, least}, {"div", most, -1, -most}, {"div", 0, -1, 0}, {"div", least, 1, least}, {"div", 1, least, 0},
		{"rem", 7, 2, 1}, {"rem", -7, 2, -1}, {"rem", 7, -2, 1}, {"rem", -7, -2, -1}, {"rem", least, -1, 0}, {"rem", most, -1, 0}, {"rem", most, least, most}, {"rem", 0, 5, 0},
		{"less", 2, 3, 1}, {"less", 3, 2, 0}, {"less", 3, 3, 0}, {"less", least, most, 1}, {"less", most, least, 0}, {"less", -1, 0, 1},
		{"eq", 3, 3, 1}, {"eq", 3, 2, 0}, {"eq", least, least, 1}, {"eq", least, most, 0}, {"eq", 0, 0, 1},
	} {
		wantFoldedInt(t, x.op, x.a, x.b, x.want)
	}
	// Of one int twice, and of the second ahead of the first.
	wantOneTrimmed(t, "f", "fn main; ", [][2]string{
		{"a = int 7; x = add a a; print x; return", "0:int = int 7; 1:int = int 14; 2 = print 1; return"},
		{"b = int 7; a = int 2; x = sub a b; print x; return", "0:int = int 7; 1:int = int 2; 2:int = int -5; 3 = print 2; return"},
	})
}

// TestFoldOfDivisorsThatAre0: these stay; what is no divisor may be 0.
func TestFoldOfDivisorsThatAre0(t *testing.T) {
	for _, a := range []int{0, 1, -1, math.MinInt, math.MaxInt} {
		for _, op := range []string{"div", "rem"} {
			wantUntrimmed(t, "f", fmt.Sprintf("fn main; a = int %d; b = int 0; x = %s a b; print x; return", a, op))
			wantUntrimmed(t, "f", fmt.Sprintf("fn main; a = int %d; b = int 0; zerocheck b; x = %s a b; print x; return", a, op))
		}
		wantFoldedInt(t, "add", a, 0, a)
		wantFoldedInt(t, "sub", a, 0, a)
		wantFoldedInt(t, "mul", a, 0, 0)
	}
	// One that is folded to 0 ahead is one, too.
	wantTrimmed(t, "f", "fn main; a = int 3; b = sub a a; x = div a b; print x; return",
		"b0; 0:int = int 3; 1:int = int 0; 2:int = div 0 1; 3 = print 2; return")
}

// TestFoldOfAllInts: each op of all ends, as the model counts.
func TestFoldOfAllInts(t *testing.T) {
	ends := append([]int{0, 1, -1, 2, -2, 7, -7, 1 << 32, -1 << 32, 1<<53 + 1, math.MaxInt, math.MaxInt - 1, math.MinInt, math.MinInt + 1}, spread(3)...)
	for n, op := range arithWords {
		u := unitOf("fn main; a = int 0; b = int 0; x = " + op + " a b; print x; return")
		for _, a := range ends {
			for _, b := range ends {
				u.Fns[0].Vals[0].N, u.Fns[0].Vals[1].N = a, b
				o, _ := impl.Optimize(u, []int{impl.PassFold})
				want := unitText(u)
				if is, end := modelInts(n, a, b); end == nil {
					want = fmt.Sprintf("fn\nb0; 0:int = int %d; 1:int = int %d; 2:int = int %d; 3 = print 2; return\nmain 0", a, b, is)
				}
				if unitText(o) != want {
					t.Errorf("%d %s %d: %s", a, op, b, unitText(o))
				}
			}
		}
	}
}

func TestFoldOfFloats(t *testing.T) {
	for _, x := range [][4]string{
		{"fadd", "1.5", "2", "float 3.5"}, {"fadd", "0.1", "0.2", "float 0.30000000000000004"}, {"fadd", "0", "-0", "float 0"}, {"fadd", "-0", "-0", "float -0"}, {"fadd", "inf", "-inf", "float NaN"}, {"fadd", "nan", "1", "float NaN"}, {"fadd", "1e308", "1e308", "float +Inf"},
		{"fsub", "1.5", "2", "float -0.5"}, {"fsub", "-0", "0", "float -0"}, {"fsub", "0", "0", "float 0"}, {"fsub", "inf", "inf", "float NaN"},
		{"fmul", "1.5", "-2", "float -3"}, {"fmul", "0", "-0", "float -0"}, {"fmul", "inf", "0", "float NaN"}, {"fmul", "5e-324", "0.5", "float 0"},
		{"fdiv", "1", "3", "float 0.3333333333333333"}, {"fdiv", "1", "0", "float +Inf"}, {"fdiv", "1", "-0", "float -Inf"}, {"fdiv", "0", "0", "float NaN"}, {"fdiv", "-1", "inf", "float -0"},
		{"fless", "1", "2", "int 1"}, {"fless", "2", "1", "int 0"}, {"fless", "-0", "0", "int 0"}, {"fless", "nan", "1", "int 0"}, {"fless", "1", "nan", "int 0"}, {"fless", "-inf", "inf", "int 1"}, {"fless", "inf", "inf", "int 0"},
		{"feq", "1.5", "1.5", "int 1"}, {"feq", "1.5", "1.25", "int 0"}, {"feq", "0", "-0", "int 1"}, {"feq", "nan", "nan", "int 0"}, {"feq", "inf", "inf", "int 1"}, {"feq", "inf", "-inf", "int 0"},
	} {
		u := unitOf(fmt.Sprintf("fn main; a = float %s; b = float %s; x = %s a b; print x; return", x[1], x[2], x[0]))
		f := optimized(t, u, "f").Fns[0]
		word := "float"
		if x[3][0] == 'i' {
			word = "int"
		}
		if got, want := valText(f, 2, false), "2:"+word+" = "+x[3]; got != want || len(f.Vals) != 4 {
			t.Errorf("%v: %s, want %s", x, got, want)
		}
	}
	// One that is no number has the bits that all such have.
	o := optimized(t, unitOf("fn main; a = float inf; x = fsub a a; print x; return"), "f")
	if v := o.Fns[0].Vals[1]; v.Op != impl.VaFloat || v.N != 9221120237041090561 || v.Ty != tyFloat() || len(v.Args) > 0 {
		t.Errorf("%+v", v)
	}
	// One that is no number is not the same as itself.
	wantTrimmed(t, "f", "fn main; a = float nan; x = feq a a; print x; return", "b0; 0:float = float NaN; 1:int = int 0; 2 = print 1; return")
}

// TestFoldOfAllFloats: each op of all ends, as Go's floats have it.
func TestFoldOfAllFloats(t *testing.T) {
	u := unitOf("fn main; a = float 0; b = float 0; c = fadd a b; d = fsub a b; e = fmul a b; f = fdiv a b; g = fless a b; h = feq a b; print c; print d; print e; print f; print g; print h; return")
	for _, a := range floatEnds() {
		for _, b := range floatEnds() {
			x, y := math.Float64frombits(uint64(a)), math.Float64frombits(uint64(b))
			u.Fns[0].Vals[0].N, u.Fns[0].Vals[1].N = a, b
			want := roomy(u)
			for n, f := range []float64{x + y, x - y, x * y, x / y} {
				want.Fns[0].Vals[2+n] = impl.Val{Op: impl.VaFloat, N: modelBits(f), Ty: tyFloat()}
			}
			want.Fns[0].Vals[6] = impl.Val{Op: impl.VaInt, N: modelTruth(x < y), Ty: tyInt()}
			want.Fns[0].Vals[7] = impl.Val{Op: impl.VaInt, N: modelTruth(x == y), Ty: tyInt()}
			if o, _ := impl.Optimize(u, []int{impl.PassFold}); unitText(o) != unitText(want) {
				t.Errorf("%v and %v: %s", x, y, unitText(o))
			}
		}
	}
}

func TestFoldOfConversions(t *testing.T) {
	for _, x := range []struct {
		float string
		want  int
	}{
		{"0", 0}, {"-0", 0}, {"1.9", 1}, {"-1.9", -1}, {"nan", 0}, {"inf", math.MaxInt}, {"-inf", math.MinInt}, {"9223372036854775808", math.MaxInt}, {"9223372036854774784", 9223372036854774784}, {"-9223372036854775808", math.MinInt}, {"-9223372036854777856", math.MinInt}, {"1e300", math.MaxInt}, {"4e-324", 0},
	} {
		o := optimized(t, unitOf("fn main; a = float "+x.float+"; x = toint a; print x; return"), "f")
		if v := o.Fns[0].Vals[1]; v.Op != impl.VaInt || v.N != x.want || v.Ty != tyInt() || len(v.Args) > 0 {
			t.Errorf("%s: %+v", x.float, v)
		}
	}
	for _, n := range []int{0, 1, -1, 3, 1 << 53, 1<<53 + 1, -1<<53 - 1, 1<<62 + 1, math.MaxInt, math.MinInt, math.MinInt + 1} {
		o := optimized(t, unitOf(fmt.Sprintf("fn main; a = int %d; x = tofloat a; print x; return", n)), "f")
		if v := o.Fns[0].Vals[1]; v.Op != impl.VaFloat || v.N != modelBits(float64(n)) || v.Ty != tyFloat() || len(v.Args) > 0 {
			t.Errorf("%d: %+v", n, v)
		}
	}
}

// TestFoldOfWhatIsNotKnown: one of both is no constant, in either place.
func TestFoldOfWhatIsNotKnown(t *testing.T) {
	for _, op := range arithWords {
		wantUntrimmed(t, "f", "fn main; a = int 1; b = read; x = "+op+" a b; y = "+op+" b a; z = "+op+" b b; print x; print y; print z; return")
		wantUntrimmed(t, "f", "fn f a:int > int; b = int 1; x = "+op+" a b; y = "+op+" x x; return y; fn main; return")
	}
	for _, op := range decWords {
		wantUntrimmed(t, "f", "fn main; a = float 1; r = read; b = tofloat r; x = "+op+" a b; y = "+op+" b a; z = "+op+" b b; print x; print y; print z; return")
	}
	wantUntrimmed(t, "f", "fn main; a = read; x = tofloat a; y = toint x; print y; return")
	// A value for a parameter is a constant, but the parameter is none.
	wantUntrimmed(t, "f", "fn main; a = int 1; f = float 2; jump m a f; m p:int q:float :; x = add p p; y = fadd q q; z = toint q; w = tofloat p; zerocheck p; makecheck p; l = make []int p; print x; print y; return")
}

// TestFoldOfSame: one value twice, two VaNil, a VaNil and a VaNew; all others stay.
func TestFoldOfSame(t *testing.T) {
	heads := "struct int; struct; fn f a:*0 b:*0 c:*1 d:[]*0; "
	tail := "; print x; return; fn main; return"
	for _, x := range [][2]string{
		{"x = same a a", "4:int = int 1; 5 = print 4"},
		{"x = same c c", "4:int = int 1; 5 = print 4"},
		{"n = nil *0; x = same n n", "4:*0 = nil; 5:int = int 1; 6 = print 5"},
		{"p = new 0; x = same p p", "4:*0 = new 0; 5:int = int 1; 6 = print 5"},
		{"n = nil *0; m = nil *0; x = same n m", "4:*0 = nil; 5:*0 = nil; 6:int = int 1; 7 = print 6"},
		{"n = nil *1; m = nil *1; x = same m n", "4:*1 = nil; 5:*1 = nil; 6:int = int 1; 7 = print 6"},
		{"n = nil *0; p = new 0; x = same n p", "4:*0 = nil; 5:*0 = new 0; 6:int = int 0; 7 = print 6"},
		{"n = nil *0; p = new 0; x = same p n", "4:*0 = nil; 5:*0 = new 0; 6:int = int 0; 7 = print 6"},
		{"p = new 1; n = nil *1; x = same n p", "4:*1 = new 1; 5:*1 = nil; 6:int = int 0; 7 = print 6"},
		{"i = int 0; g = get d i; x = same g g", "4:int = int 0; 5:*0 = get 3 4; 6:int = int 1; 7 = print 6"},
	} {
		wantTrimmed(t, "f", heads+x[0]+tail, "b0 0:*0 1:*0 2:*1 3:[]*0; "+x[1]+"; return")
	}
	for _, stays := range []string{
		"x = same a b", "x = same b a", "p = new 0; q = new 0; x = same p q", "n = nil *0; x = same a n", "n = nil *0; x = same n a", "p = new 0; x = same a p", "p = new 0; x = same p a",
		"i = int 0; g = get d i; n = nil *0; x = same g n", "i = int 0; g = get d i; h = get d i; x = same g h",
	} {
		wantUntrimmed(t, "f", heads+stays+tail)
	}
}

func TestFoldOfLengths(t *testing.T) {
	for _, ty := range []string{"[]int", "[]float", "[]*0"} {
		wantTrimmed(t, "f", "struct; fn main; l = nil "+ty+"; x = len l; print x; return",
			"b0; 0:"+ty+" = nil; 1:int = int 0; 2 = print 1; return")
		wantUntrimmed(t, "f", "struct; fn main; n = int 3; l = make "+ty+" n; x = len l; print x; return")
		wantUntrimmed(t, "f", "struct; fn f l:"+ty+" > int; x = len l; return x; fn main; return")
	}
}

// TestFoldedAhead: what was folded counts, in the same block and in later ones.
func TestFoldedAhead(t *testing.T) {
	wantTrimmed(t, "f", "fn main; a = int 2; b = mul a a; c = mul b b; d = sub c a; f = tofloat d; g = fdiv f f; h = toint g; e = eq h a; print e; return",
		"b0; 0:int = int 2; 1:int = int 4; 2:int = int 16; 3:int = int 14; 4:float = float 14; 5:float = float 1; 6:int = int 1; 7:int = int 0; 8 = print 7; return")
	wantTrimmed(t, "f", "fn main; a = int 2; b = mul a a; jump n; n :; c = mul b b; r = read; if r o p; o :; d = add c b; print d; return; p :; e = sub b c; panic e",
		"b0; 0:int = int 2; 1:int = int 4; jump b1",
		"b1; 2:int = int 16; 3:int = read; if 3 b2 b3",
		"b2; 4:int = int 20; 5 = print 4; return",
		"b3; 6:int = int -12; panic 6")
	// It counts for checks and for the end of the block.
	wantTrimmed(t, "f", "fn main; a = int 60; b = add a a; c = sub b a; zerocheck b; makecheck b; makecheck c; l = make []int c; d = eq a c; if d t e; t :; print a; return; e :; return",
		"b0; 0:int = int 60; 1:int = int 120; 2:int = int 60; 3 = makecheck 1; 4:[]int = make 2; 5:int = int 1; jump b1",
		"b1; 6 = print 0; return")
	wantTrimmed(t, "f", "struct; fn main; p = new 0; n = nil *0; x = same p n; y = same n n; l = nil []int; k = len l; z = eq x y; w = eq x k; print z; print w; return",
		"b0; 0:*0 = new 0; 1:*0 = nil; 2:int = int 0; 3:int = int 1; 4:[]int = nil; 5:int = int 0; 6:int = int 0; 7:int = int 1; 8 = print 6; 9 = print 7; return")
}

// TestFoldedLater: a block with a lesser number that comes later on the way is looked at first, and what was not folded
// then is by the next pass.
func TestFoldedLater(t *testing.T) {
	text := "fn main; jump c; a :; y = add x x; zerocheck x; z = add one one; print y; print z; if x d e; c :; one = int 1; x = add one one; jump a; d :; w = add x y; print w; return; e :; return"
	wantTrimmed(t, "f", text,
		"b0; jump b2",
		"b1; 0:int = add 6 6; 1 = zerocheck 6; 2:int = int 2; 3 = print 0; 4 = print 2; if 6 b3 b4",
		"b2; 5:int = int 1; 6:int = int 2; jump b1",
		"b3; 7:int = add 6 0; 8 = print 7; return",
		"b4; return")
	wantTrimmed(t, "ff", text,
		"b0; jump b2",
		"b1; 0:int = int 4; 1:int = int 2; 2 = print 0; 3 = print 1; jump b3",
		"b2; 4:int = int 1; 5:int = int 2; jump b1",
		"b3; 6:int = int 6; 7 = print 6; return")
}

func TestFoldOfChecks(t *testing.T) {
	heads := "struct int; fn f a:*0 b:int c:[]int; "
	tail := "; return; fn main; return"
	for _, x := range [][2]string{
		{"p = new 0; nilcheck p", "3:*0 = new 0"},
		{"p = new 0; nilcheck p; nilcheck p; v = load 0 p; nilcheck p", "3:*0 = new 0; 4:int = load 0 3"},
		{"i = int 1; zerocheck i", "3:int = int 1"},
		{"i = int -1; zerocheck i", "3:int = int -1"},
		{"i = int -9223372036854775808; zerocheck i", "3:int = int -9223372036854775808"},
		{"i = int 0; makecheck i", "3:int = int 0"},
		{"i = int 1; makecheck i", "3:int = int 1"},
		{"i = int 100; makecheck i; l = make []int i", "3:int = int 100; 4:[]int = make 3"},
		{"i = int 99; makecheck i; makecheck i; zerocheck i", "3:int = int 99"},
	} {
		wantTrimmed(t, "f", heads+x[0]+tail, "b0 0:*0 1:int 2:[]int; "+x[1]+"; return")
	}
	for _, check := range []string{
		"nilcheck a", "p = nil *0; nilcheck p", "p = load 0 a; zerocheck p", "zerocheck b", "i = int 0; zerocheck i", "makecheck b",
		"i = int -1; makecheck i", "i = int 101; makecheck i", "i = int 9223372036854775807; makecheck i", "i = int -9223372036854775808; makecheck i",
		"indexcheck c b", "i = int 0; indexcheck c i", "i = int 1; l = make []int i; j = int 0; indexcheck l j", "i = int 0; l = nil []int; indexcheck l i",
	} {
		wantUntrimmed(t, "f", heads+check+tail)
	}
}

// TestFoldOfChoices: which edge is left, and which blocks go.
func TestFoldOfChoices(t *testing.T) {
	for _, n := range []int{0, 1, -1, 2, math.MinInt, math.MaxInt} {
		text := fmt.Sprintf("fn main; x = int %d; if x a b; a :; y = int 10; print y; return; b :; z = int 20; print z; return", n)
		way := "10"
		if n == 0 {
			way = "20"
		}
		wantTrimmed(t, "f", text, fmt.Sprintf("b0; 0:int = int %d; jump b1", n), "b1; 1:int = int "+way+"; 2 = print 1; return")
	}
	// Edges the other way round; both ways lead to one block behind them.
	wantTrimmed(t, "f", "fn main; x = int 0; y = read; if x b a; a :; print y; jump c y; b :; print x; jump c x; c p:int :; print p; return",
		"b0; 0:int = int 0; 1:int = read; jump b1",
		"b1; 2 = print 1; jump b2 1",
		"b2 3:int; 4 = print 3; return")
	// The edge that goes leads to a block that is reached by another way.
	wantTrimmed(t, "f", "fn main; x = int 1; if x a b; a :; r = read; if r b c; b :; print x; return; c :; return",
		"b0; 0:int = int 1; jump b1",
		"b1; 1:int = read; if 1 b2 b3",
		"b2; 2 = print 0; return",
		"b3; return")
	// A choice of what is made in a block ahead; in a block that goes nothing matters.
	wantTrimmed(t, "f", "fn main; x = int 0; jump a; a :; if x b c; b :; if x d e; c :; return; d :; return; e :; return",
		"b0; 0:int = int 0; jump b1",
		"b1; jump b2",
		"b2; return")
	wantUntrimmed(t, "f", "fn main; x = read; if x a b; a :; return; b :; return")
	wantUntrimmed(t, "f", "fn main; x = int 1; jump a x; a p:int :; if p b c; b :; return; c :; return")
	wantUntrimmed(t, "f", "fn main; x = int 1; panic x")
}
