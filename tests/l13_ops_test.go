package tests

import (
	"fmt"
	"math"
	"strings"
	"testing"

	"loop.example/g00306/impl"
)

// What stands ahead of main in these tests: nothing, or two structs, the first of which has a field of each sort.
var (
	noStructs     = [2]string{}
	sampleStructs = [2]string{"struct int *1 []int float; struct; ", "struct . * * .; struct; "}
)

// TestEmittedPairsOfNumbers: both Args in registers, both in slots, one of each, and one value twice.
func TestEmittedPairsOfNumbers(t *testing.T) {
	for _, op := range arithWords {
		wantMain(t, noStructs, "x = read; y = read; z = "+op+" x y; print z", 3, "read r0; read r1; "+op+" r2 r0 r1; print r2")
		wantMain(t, noStructs, "x = read; y = read; call none; z = "+op+" x y; call none; print z", 6,
			"read r15; store r15 3; read r15; store r15 4; call none; load r12 3; load r13 4; "+op+" r15 r12 r13; store r15 5; call none; load r12 5; print r12")
		wantMain(t, noStructs, "x = read; call none; y = read; z = "+op+" x y; print z", 4, "read r15; store r15 3; call none; read r0; load r12 3; "+op+" r1 r12 r0; print r1")
		wantMain(t, noStructs, "x = read; call none; y = read; z = "+op+" y x; print z", 4, "read r15; store r15 3; call none; read r0; load r13 3; "+op+" r1 r0 r13; print r1")
		wantMain(t, noStructs, "x = read; z = "+op+" x x; print z", 3, "read r0; "+op+" r1 r0 r0; print r1")
		wantMain(t, noStructs, "x = read; call none; z = "+op+" x x; print z", 4, "read r15; store r15 3; call none; load r12 3; load r13 3; "+op+" r0 r12 r13; print r0")
	}
	one, two := fmt.Sprint(math.Float64bits(1)), fmt.Sprint(math.Float64bits(2))
	for n, op := range decWords {
		show := "printf"
		if n == impl.FaLess || n == impl.FaSame {
			show = "print"
		}
		wantMain(t, noStructs, "x = float 1; y = float 2; z = "+op+" x y; print z", 3, "int r0 "+one+"; int r1 "+two+"; "+op+" r2 r0 r1; "+show+" r2")
		wantMain(t, noStructs, "x = float 1; y = float 2; call none; z = "+op+" y x; call none; print z", 6,
			"int r15 "+one+"; store r15 3; int r15 "+two+"; store r15 4; call none; load r12 4; load r13 3; "+op+" r15 r12 r13; store r15 5; call none; load r12 5; "+show+" r12")
		wantMain(t, noStructs, "x = float 1; call none; z = "+op+" x x; print z", 4, "int r15 "+one+"; store r15 3; call none; load r12 3; load r13 3; "+op+" r0 r12 r13; "+show+" r0")
	}
}

// TestEmittedPairsOfPointers: what is got for VaSame, and the maps where these are across a call.
func TestEmittedPairsOfPointers(t *testing.T) {
	wantMain(t, sampleStructs, "p = nil *0; q = nil *0; z = same p q; print z", 3, "int r0 0; int r1 0; same r2 r0 r1; print r2")
	wantMain(t, sampleStructs, "p = new 0; q = new 0; z = same q p; call none; print z", 5, "new r15 0; store r15 3; new r0 0 @ 3; load r13 3; same r15 r0 r13; store r15 4; call none; load r12 4; print r12")
	wantMain(t, sampleStructs, "p = new 1; call none; z = same p p; print z", 4, "new r15 1; store r15 3; call none @ 3; load r12 3; load r13 3; same r0 r12 r13; print r0")
}

// TestEmittedNumbersThemselves: the ends of ints, both noughts, what is no number, both infinities; in registers and in slots,
// and where nobody uses them.
func TestEmittedNumbersThemselves(t *testing.T) {
	for word, n := range map[string]int{
		"int 0": 0, "int 5": 5, "int -7": -7, "int -9223372036854775808": math.MinInt, "int 9223372036854775807": math.MaxInt,
		"float 0": 0, "float -0": math.MinInt, "float NaN": 9221120237041090561, "float Inf": 9218868437227405312, "float -Inf": -4503599627370496,
		"float 1.5": 4609434218613702656,
	} {
		show := "print"
		if strings.HasPrefix(word, "float") {
			show = "printf"
		}
		wantMain(t, noStructs, "x = "+word+"; print x", 3, fmt.Sprintf("int r0 %d; %s r0", n, show))
		wantMain(t, noStructs, "x = "+word+"; call none; print x", 4, fmt.Sprintf("int r15 %d; store r15 3; call none; load r12 3; %s r12", n, show))
		wantMain(t, noStructs, "x = "+word, 3, fmt.Sprintf("int r0 %d", n))
	}
}

// TestEmittedNilOfEachType: it is 0, and in a map where it is across a safe place.
func TestEmittedNilOfEachType(t *testing.T) {
	for _, ty := range []string{"*0", "*1"} {
		wantMain(t, sampleStructs, "p = nil "+ty+"; nilcheck p", 3, "int r0 0; nil r0")
		wantMain(t, sampleStructs, "p = nil "+ty+"; call none; nilcheck p", 4, "int r15 0; store r15 3; call none @ 3; load r12 3; nil r12")
	}
	for _, ty := range []string{"[]int", "[]float", "[]*0", "[]*1"} {
		wantMain(t, sampleStructs, "l = nil "+ty+"; n = len l; print n", 3, "int r0 0; len r1 r0; print r1")
		wantMain(t, sampleStructs, "l = nil "+ty+"; call none; n = len l; call none; print n", 5, "int r15 0; store r15 3; call none @ 3; load r12 3; len r15 r12; store r15 4; call none; load r12 4; print r12")
		wantMain(t, sampleStructs, "l = nil "+ty, 3, "int r0 0")
	}
}

// TestEmittedOneNumber: what is made of one Arg, in registers and in slots.
func TestEmittedOneNumber(t *testing.T) {
	wantMain(t, noStructs, "x = float 1.5; y = toint x; print y", 3, "int r0 4609434218613702656; toint r1 r0; print r1")
	wantMain(t, noStructs, "x = float 1.5; call none; y = toint x; call none; print y", 5,
		"int r15 4609434218613702656; store r15 3; call none; load r12 3; toint r15 r12; store r15 4; call none; load r12 4; print r12")
	wantMain(t, noStructs, "x = read; y = tofloat x; print y", 3, "read r0; tofloat r1 r0; printf r1")
	wantMain(t, noStructs, "x = read; call none; y = tofloat x; call none; print y", 5,
		"read r15; store r15 3; call none; load r12 3; tofloat r15 r12; store r15 4; call none; load r12 4; printf r12")
	// The register of what was used for the last time is free only behind that.
	wantMain(t, noStructs, "x = read; y = tofloat x; z = toint y; w = tofloat z; print w", 3, "read r0; tofloat r1 r0; toint r0 r1; tofloat r1 r0; printf r1")
	wantMain(t, noStructs, "x = read; y = tofloat x", 3, "read r0; tofloat r1 r0")
}

// TestEmittedReadAndPrint: what is read in a register, in a slot, and where nobody uses it.
func TestEmittedReadAndPrint(t *testing.T) {
	wantMain(t, noStructs, "x = read; print x", 3, "read r0; print r0")
	wantMain(t, noStructs, "x = read; call none; print x; print x", 4, "read r15; store r15 3; call none; load r12 3; print r12; load r12 3; print r12")
	wantMain(t, noStructs, "x = read; y = read; read; print y", 3, "read r0; read r0; read r1; print r0")
}

// TestEmittedObjectsMade: structs by number, lists of each kind; in registers and in slots.
func TestEmittedObjectsMade(t *testing.T) {
	for _, n := range []string{"0", "1"} {
		wantMain(t, sampleStructs, "p = new "+n+"; nilcheck p", 3, "new r0 "+n+"; nil r0")
		wantMain(t, sampleStructs, "p = new "+n+"; call none; nilcheck p", 4, "new r15 "+n+"; store r15 3; call none @ 3; load r12 3; nil r12")
		wantMain(t, sampleStructs, "p = new "+n, 3, "new r0 "+n)
	}
	for ty, word := range map[string]string{"[]int": "ints", "[]float": "floats", "[]*0": "ptrs", "[]*1": "ptrs"} {
		wantMain(t, sampleStructs, "k = read; l = make "+ty+" k; n = len l; print n", 3, "read r0; "+word+" r1 r0; len r0 r1; print r0")
		wantMain(t, sampleStructs, "k = read; call none; l = make "+ty+" k; call none; n = len l; print n", 5,
			"read r15; store r15 3; call none; load r12 3; "+word+" r15 r12; store r15 4; call none @ 4; load r12 4; len r0 r12; print r0")
		// How many there are is needed behind it, too: then it has a slot, but that is no place.
		wantMain(t, sampleStructs, "k = read; makecheck k; l = make "+ty+" k; print k", 4, "read r15; store r15 3; load r12 3; size r12; load r12 3; "+word+" r0 r12; load r12 3; print r12")
	}
}

// TestEmittedChecks: each with its Args in registers and in slots.
func TestEmittedChecks(t *testing.T) {
	wantMain(t, sampleStructs, "p = new 1; nilcheck p; nilcheck p", 3, "new r0 1; nil r0; nil r0")
	wantMain(t, sampleStructs, "p = nil *1; call none; nilcheck p", 4, "int r15 0; store r15 3; call none @ 3; load r12 3; nil r12")
	for _, x := range [][2]string{{"zerocheck", "zero"}, {"makecheck", "size"}} {
		wantMain(t, noStructs, "x = read; "+x[0]+" x", 3, "read r0; "+x[1]+" r0")
		wantMain(t, noStructs, "x = read; call none; "+x[0]+" x; print x", 4, "read r15; store r15 3; call none; load r12 3; "+x[1]+" r12; load r12 3; print r12")
	}
	wantMain(t, noStructs, "k = int 2; l = make []int k; i = read; indexcheck l i", 3, "int r0 2; ints r1 r0; read r0; index r1 r0")
	wantMain(t, noStructs, "l = nil []float; i = read; call none; indexcheck l i", 5, "int r15 0; store r15 3; read r15; store r15 4; call none @ 3; load r12 3; load r13 4; index r12 r13")
	wantMain(t, noStructs, "l = nil []float; call none; i = read; indexcheck l i", 4, "int r15 0; store r15 3; call none @ 3; read r0; load r12 3; index r12 r0")
	wantMain(t, noStructs, "i = read; call none; l = nil []float; indexcheck l i", 4, "read r15; store r15 3; call none; int r0 0; load r13 3; index r0 r13")
}

// TestEmittedFields: what is loaded and stored, by the field's number; the pointer into a field of its own.
func TestEmittedFields(t *testing.T) {
	wantMain(t, sampleStructs, "p = new 0; x = load 0 p; f = load 3 p; print x; print f", 3, "new r0 0; getf r1 r0 0; getf r2 r0 3; print r1; printf r2")
	wantMain(t, sampleStructs, "p = new 0; x = read; store 0 p x; y = load 0 p; print y", 3, "new r0 0; read r1; putf r0 r1 0; getf r1 r0 0; print r1")
	wantMain(t, sampleStructs, "p = new 0; q = new 1; call none; store 1 p q; r = load 1 p; call none; nilcheck r", 6,
		"new r15 0; store r15 3; new r15 1 @ 3; store r15 4; call none @ 3 4; load r12 3; load r13 4; putf r12 r13 1; load r12 3; getf r15 r12 1; store r15 5; call none @ 5; load r12 5; nil r12")
	wantMain(t, sampleStructs, "p = new 0; call none; l = nil []int; store 2 p l; m = load 2 p; n = len m; print n", 4,
		"new r15 0; store r15 3; call none @ 3; int r0 0; load r12 3; putf r12 r0 2; load r12 3; getf r0 r12 2; len r1 r0; print r1")
	wantMain(t, sampleStructs, "l = nil []int; call none; p = new 0; store 2 p l", 4, "int r15 0; store r15 3; call none @ 3; new r0 0 @ 3; load r13 3; putf r0 r13 2")
	own := [2]string{"struct *0; ", "struct *; "}
	wantMain(t, own, "p = new 0; store 0 p p; q = load 0 p; z = same p q; print z", 3, "new r0 0; putf r0 r0 0; getf r1 r0 0; same r2 r0 r1; print r2")
	wantMain(t, own, "p = new 0; call none; store 0 p p", 4, "new r15 0; store r15 3; call none @ 3; load r12 3; load r13 3; putf r12 r13 0")
	// What can't be done without a check that lacks.
	wantMain(t, own, "p = nil *0; q = load 0 p; nilcheck q", 3, "int r0 0; getf r1 r0 0; nil r1")
}

// TestEmittedElements: what is got and put, with three Args from slots, and one value as two of them.
func TestEmittedElements(t *testing.T) {
	wantMain(t, noStructs, "k = int 3; l = make []int k; i = int 1; x = read; put l i x; y = get l i; print y", 3,
		"int r0 3; ints r1 r0; int r0 1; read r2; pute r1 r0 r2; gete r2 r1 r0; print r2")
	wantMain(t, noStructs, "k = int 3; l = make []int k; i = int 1; x = read; call none; put l i x; y = get l i; call none; print y", 7,
		"int r0 3; ints r15 r0; store r15 3; int r15 1; store r15 4; read r15; store r15 5; call none @ 3; load r12 3; load r13 4; load r14 5; pute r12 r13 r14; "+
			"load r12 3; load r13 4; gete r15 r12 r13; store r15 6; call none; load r12 6; print r12")
	wantMain(t, noStructs, "k = int 3; l = make []int k; i = int 2; put l i i; y = get l i; print y", 3, "int r0 3; ints r1 r0; int r0 2; pute r1 r0 r0; gete r2 r1 r0; print r2")
	wantMain(t, noStructs, "k = int 3; l = make []int k; i = int 2; call none; put l i i", 5,
		"int r0 3; ints r15 r0; store r15 3; int r15 2; store r15 4; call none @ 3; load r12 3; load r13 4; load r14 4; pute r12 r13 r14")
	// The second one, and the third one alone, in a slot.
	wantMain(t, noStructs, "i = int 2; k = int 3; l = make []int k; x = read; put l i x; print i", 4, "int r15 2; store r15 3; int r0 3; ints r1 r0; read r0; load r13 3; pute r1 r13 r0; load r12 3; print r12")
	wantMain(t, noStructs, "x = read; k = int 3; l = make []int k; i = int 0; put l i x", 4, "read r15; store r15 3; int r0 3; ints r1 r0; int r0 0; load r14 3; pute r1 r0 r14")
	wantMain(t, noStructs, "k = int 3; l = make []float k; call none; i = int 2; x = float 1.5; put l i x; y = get l i; print y", 4,
		"int r0 3; floats r15 r0; store r15 3; call none @ 3; int r0 2; int r1 4609434218613702656; load r12 3; pute r12 r0 r1; load r12 3; gete r1 r12 r0; printf r1")
	wantMain(t, sampleStructs, "k = int 3; l = make []*1 k; p = new 1; i = int 1; put l i p; q = get l i; z = same p q; print z", 4,
		"int r0 3; ptrs r15 r0; store r15 3; new r0 1 @ 3; int r1 1; load r12 3; pute r12 r1 r0; load r12 3; gete r2 r12 r1; same r1 r0 r2; print r1")
}

// homed is a value with a name, made in a way.
type homed struct {
	name, how string
}

// homedOp is an op with its Args, and what uses the value z that it makes.
type homedOp struct {
	words string
	args  []homed
	use   string
}

func homedOps() []homedOp {
	x, y := homed{"x", "read"}, homed{"y", "read"}
	f, g := homed{"f", "float 2.5"}, homed{"g", "float -1"}
	p, q, l, m := homed{"p", "new 0"}, homed{"q", "new 0"}, homed{"l", "make []int k"}, homed{"m", "make []*0 k"}
	list := []homedOp{
		{"int 5", nil, "print z"}, {"float 2", nil, "print z"}, {"nil *0", nil, "nilcheck z"}, {"nil []int", nil, "w = len z; print w"}, {"same", []homed{p, q}, "print z"},
		{"toint", []homed{f}, "print z"}, {"tofloat", []homed{x}, "print z"}, {"len", []homed{l}, "print z"}, {"new 0", nil, "nilcheck z; w = load 3 z; print w"},
		{"make []int", []homed{x}, "w = len z; print w"}, {"make []float", []homed{x}, "w = len z; print w"}, {"make []*0", []homed{x}, "w = len z; print w"},
		{"nilcheck", []homed{p}, ""}, {"indexcheck", []homed{l, x}, ""}, {"zerocheck", []homed{x}, ""}, {"makecheck", []homed{x}, ""},
		{"load 0", []homed{p}, "print z"}, {"load 1", []homed{p}, "nilcheck z"}, {"load 2", []homed{p}, "w = len z; print w"}, {"load 3", []homed{p}, "print z"},
		{"store 0", []homed{p, x}, ""}, {"store 1", []homed{p, q}, ""}, {"store 2", []homed{p, l}, ""}, {"store 3", []homed{p, f}, ""},
		{"get", []homed{l, x}, "print z"}, {"get", []homed{m, x}, "nilcheck z"}, {"put", []homed{l, x, y}, ""}, {"put", []homed{m, x, p}, ""}, {"read", nil, "print z"},
		{"print", []homed{x}, ""}, {"print", []homed{f}, ""}, {"call none", nil, ""}, {"call one", []homed{x}, "print z"}, {"call two", []homed{f, p}, "print z"},
		{"call four", []homed{x, p, l, m}, "w = len z; print w"}, {"call back", []homed{p}, "nilcheck z"},
	}
	for _, word := range arithWords {
		list = append(list, homedOp{word, []homed{x, y}, "print z"})
	}
	for _, word := range decWords {
		list = append(list, homedOp{word, []homed{f, g}, "print z"})
	}
	return list
}

// TestEmittedInEveryHome: each of the Args of each op in a register or in a slot, and so what it makes, in all ways; held
// against the second way, and run.
func TestEmittedInEveryHome(t *testing.T) {
	t.Parallel()
	for _, op := range homedOps() {
		for ways := range 1 << (len(op.args) + 1) {
			u := unitOf(op.text(ways))
			m, ok := emit(t, u)
			if !ok {
				t.Fatalf("refused: %s", op.text(ways))
			}
			for _, input := range someInputs() {
				wantImageDoes(t, u, m, input)
			}
		}
	}
}

// text puts those Args into slots whose bits are set, by a call behind them, and what is made if the last bit is.
func (op homedOp) text(ways int) string {
	var slots, regs, words string
	for n, arg := range op.args {
		line := arg.name + " = " + arg.how + "; "
		if ways>>n&1 == 1 {
			slots += line
		} else {
			regs += strings.Replace(line, " k", " j", 1)
		}
		words += " " + arg.name
	}
	between := "jump b; b :; "
	if ways>>len(op.args)&1 == 1 {
		between += "call none; "
	}
	return "struct int *0 []int float; fn main; k = int 4; " + slots + "call none; j = int 3; " + regs + "z = " + op.words + words + "; " + between + op.use + "; return; fn none; return; " +
		"fn one a:int > int; return a; fn two a:float b:*0 > float; nilcheck b; return a; fn four a:int b:*0 c:[]int d:[]*0 > []*0; n = len c; print n; return d; fn back p:*0 > *0; return p"
}
