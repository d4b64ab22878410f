package tests

import (
	"fmt"
	"math"
	"testing"

	"loop.example/g00306/impl"
)

// lowerHeads has the structs 0 and 1, and functions 0 to 3 that take and hand back what there is.
const lowerHeads = `type P struct { a int ; f float ; n * P ; l [ ] int ; } type Q struct { p * P ; g [ ] float ; q [ ] * Q ; }
func none ( ) { } func two ( a int , b float ) { } func one ( a int ) int { return a ; } func all ( a int , b float , c * Q , d [ ] * P ) * Q { return c ; }`

func TestLowerOfConstants(t *testing.T) {
	wantOneBlock(t, lowerHeads, [][2]string{
		{"", "return"},
		{"print 7 ;", "0:int = int 7; 1 = print 0; return"},
		{"print 0 ;", "0:int = int 0; 1 = print 0; return"},
		{"print -1 ;", "0:int = int -1; 1 = print 0; return"},
		{"print 9223372036854775807 ;", "0:int = int 9223372036854775807; 1 = print 0; return"},
		{"print -9223372036854775808 ;", "0:int = int -9223372036854775808; 1 = print 0; return"},
		{"print read ; print read ;", "0:int = read; 1 = print 0; 2:int = read; 3 = print 2; return"},
		{"print ( nil P == nil P ) ;", "0:*0 = nil; 1:*0 = nil; 2:int = same 0 1; 3 = print 2; return"},
		{"print ( nil Q == new Q ) ;", "0:*1 = nil; 1:*1 = new 1; 2:int = same 0 1; 3 = print 2; return"},
		{"print ( new P == nil P ) ;", "0:*0 = new 0; 1:*0 = nil; 2:int = same 0 1; 3 = print 2; return"},
		// The same constant twice is two values.
		{"print 3 ; print 3 ;", "0:int = int 3; 1 = print 0; 2:int = int 3; 3 = print 2; return"},
	})
}

func TestLowerOfFloats(t *testing.T) {
	for _, f := range []float64{0, math.Copysign(0, -1), 1, -1.5, math.Inf(1), math.Inf(-1), math.NaN(), math.MaxFloat64, math.SmallestNonzeroFloat64} {
		text := fmt.Sprintf("print 0f%016x ;", uint64(impl.Bits(f)))
		u := loweredText(t, mainText("", text))
		want := []impl.Val{{Op: impl.VaFloat, N: impl.Bits(f), Ty: tyFloat()}, {Op: impl.VaPrint, N: 1, Args: []int{0}}}
		if got := u.Fns[0].Vals; fmt.Sprint(got) != fmt.Sprint(want) {
			t.Errorf("%v: %+v", f, got)
		}
	}
	wantOneBlock(t, "", [][2]string{
		{"print 0f7ff8000000000001 ;", "0:float = float NaN; 1 = fprint 0; return"},
		{"print 0f8000000000000000 ;", "0:float = float -0; 1 = fprint 0; return"},
	})
}

// TestLowerOfVariables: each is what was made last for it, and makes nothing new.
func TestLowerOfVariables(t *testing.T) {
	wantOneBlock(t, lowerHeads, [][2]string{
		{"var x int ; print x ; print x ;", "0:int = int 0; 1 = print 0; 2 = print 0; return"},
		{"var x int ; print ( x + x ) ;", "0:int = int 0; 1:int = add 0 0; 2 = print 1; return"},
		{"var x int ; x = 3 ; print x ;", "0:int = int 0; 1:int = int 3; 2 = print 1; return"},
		{"var x int ; x = ( x + x ) ; x = ( x * x ) ; print x ;", "0:int = int 0; 1:int = add 0 0; 2:int = mul 1 1; 3 = print 2; return"},
		{"var x int ; var y int ; x = y ; print x ;", "0:int = int 0; 1:int = int 0; 2 = print 1; return"},
		{"var x int ; var y int ; x = 1 ; y = x ; x = 2 ; print y ; print x ;", "0:int = int 0; 1:int = int 0; 2:int = int 1; 3:int = int 2; 4 = print 2; 5 = print 3; return"},
		{"var x int ; x = x ; print x ;", "0:int = int 0; 1 = print 0; return"},
		// It is looked at where it stands: ahead of the Kid behind it.
		{"var x float ; var y float ; var z float ; z = x ; x = y ; y = z ; print x ; print y ;", "0:float = float 0; 1:float = float 0; 2:float = float 0; 3 = fprint 1; 4 = fprint 0; return"},
	})
	wantFirst(t, "func f ( a int , b float , c int ) int { print b ; print c ; c = a ; a = 4 ; return c ; } func main ( ) { }",
		"b0 0:int 1:float 2:int; 3 = fprint 1; 4 = print 2; 5:int = int 4; return 0")
}

func TestLowerOfMakes(t *testing.T) {
	wantOneBlock(t, lowerHeads, [][2]string{
		{"print len ( make [ ] int ( 3 ) ) ;", "0:int = int 3; 1 = makecheck 0; 2:[]int = make 0; 3:int = len 2; 4 = print 3; return"},
		{"print len ( make [ ] float ( read ) ) ;", "0:int = read; 1 = makecheck 0; 2:[]float = make 0; 3:int = len 2; 4 = print 3; return"},
		{"print len ( make [ ] * Q ( -1 ) ) ;", "0:int = int -1; 1 = makecheck 0; 2:[]*1 = make 0; 3:int = len 2; 4 = print 3; return"},
		{"print len ( make [ ] * P ( ( 7 / read ) ) ) ;", "0:int = int 7; 1:int = read; 2 = zerocheck 1; 3:int = div 0 1; 4 = makecheck 3; 5:[]*0 = make 3; 6:int = len 5; 7 = print 6; return"},
		{"var n int ; print ( len ( make [ ] int ( n ) ) + len ( make [ ] int ( n ) ) ) ;", "0:int = int 0; 1 = makecheck 0; 2:[]int = make 0; 3:int = len 2; 4 = makecheck 0; 5:[]int = make 0; 6:int = len 5; 7:int = add 3 6; 8 = print 7; return"},
	})
}

func TestLowerOfCalls(t *testing.T) {
	wantOneBlock(t, lowerHeads, [][2]string{
		{"do none ( ) ;", "0 = call 0; return"},
		{"do two ( 1 , 0f3fe0000000000000 ) ;", "0:int = int 1; 1:float = float 0.5; 2 = call 1 0 1; return"},
		{"do one ( 5 ) ;", "0:int = int 5; 1:int = call 2 0; return"},
		{"print one ( one ( read ) ) ;", "0:int = read; 1:int = call 2 0; 2:int = call 2 1; 3 = print 2; return"},
		{"print ( one ( 1 ) - one ( 2 ) ) ;", "0:int = int 1; 1:int = call 2 0; 2:int = int 2; 3:int = call 2 2; 4:int = sub 1 3; 5 = print 4; return"},
		// Kids with calls of their own, each with its Kids ahead of it.
		{"do two ( one ( one ( 1 ) ) , float ( one ( 2 ) ) ) ;", "0:int = int 1; 1:int = call 2 0; 2:int = call 2 1; 3:int = int 2; 4:int = call 2 3; 5:float = tofloat 4; 6 = call 1 2 5; return"},
		{"do all ( one ( 1 ) , 0f0000000000000000 , all ( 2 , 0f0000000000000000 , nil Q , make [ ] * P ( 0 ) ) , make [ ] * P ( one ( 3 ) ) ) ;",
			"0:int = int 1; 1:int = call 2 0; 2:float = float 0; 3:int = int 2; 4:float = float 0; 5:*1 = nil; 6:int = int 0; 7 = makecheck 6; 8:[]*0 = make 6; 9:*1 = call 3 3 4 5 8; 10:int = int 3; 11:int = call 2 10; 12 = makecheck 11; 13:[]*0 = make 11; 14:*1 = call 3 1 2 9 13; return"},
		{"do main ( ) ;", "0 = call 4; return"},
		// One value more than once.
		{"var x int ; var f float ; do two ( x , f ) ; do two ( x , f ) ;", "0:int = int 0; 1:float = float 0; 2 = call 1 0 1; 3 = call 1 0 1; return"},
	})
	// A function that stands behind, and one that calls itself.
	wantUnitText(t, "func main ( ) { print b ( a ( ) ) ; } func a ( ) int { return b ( 1 ) ; } func b ( x int ) int { if x { return x ; } else { return b ( x ) ; } }",
		"fn", "b0; 0:int = call 1; 1:int = call 2 0; 2 = print 1; return",
		"fn > int", "b0; 0:int = int 1; 1:int = call 2 0; return 1",
		"fn int > int", "b0 0:int; if 0 b1 b2", "b1; return 0", "b2; 1:int = call 2 0; return 1",
		"main 0")
}

func TestLowerOfFieldsAndPlaces(t *testing.T) {
	wantOneBlock(t, lowerHeads, [][2]string{
		{"print new P . a ;", "0:*0 = new 0; 1 = nilcheck 0; 2:int = load 0 0; 3 = print 2; return"},
		{"print nil P . f ;", "0:*0 = nil; 1 = nilcheck 0; 2:float = load 1 0; 3 = fprint 2; return"},
		{"print new P . n . n . f ;", "0:*0 = new 0; 1 = nilcheck 0; 2:*0 = load 2 0; 3 = nilcheck 2; 4:*0 = load 2 2; 5 = nilcheck 4; 6:float = load 1 4; 7 = fprint 6; return"},
		{"print new Q . p . l [ 2 ] ;", "0:*1 = new 1; 1 = nilcheck 0; 2:*0 = load 0 0; 3 = nilcheck 2; 4:[]int = load 3 2; 5:int = int 2; 6 = indexcheck 4 5; 7:int = get 4 5; 8 = print 7; return"},
		{"print new Q . g [ read ] ;", "0:*1 = new 1; 1 = nilcheck 0; 2:[]float = load 1 0; 3:int = read; 4 = indexcheck 2 3; 5:float = get 2 3; 6 = fprint 5; return"},
		{"print ( new Q . q [ 0 ] . q [ 1 ] == nil Q ) ;", "0:*1 = new 1; 1 = nilcheck 0; 2:[]*1 = load 2 0; 3:int = int 0; 4 = indexcheck 2 3; 5:*1 = get 2 3; 6 = nilcheck 5; 7:[]*1 = load 2 5; 8:int = int 1; 9 = indexcheck 7 8; 10:*1 = get 7 8; 11:*1 = nil; 12:int = same 10 11; 13 = print 12; return"},
		{"print make [ ] int ( 4 ) [ one ( 3 ) ] ;", "0:int = int 4; 1 = makecheck 0; 2:[]int = make 0; 3:int = int 3; 4:int = call 2 3; 5 = indexcheck 2 4; 6:int = get 2 4; 7 = print 6; return"},
		{"var p * P ; print p . a ; print p . a ;", "0:*0 = nil; 1 = nilcheck 0; 2:int = load 0 0; 3 = print 2; 4 = nilcheck 0; 5:int = load 0 0; 6 = print 5; return"},
		{"var l [ ] int ; print l [ l [ 0 ] ] ;", "0:[]int = nil; 1:int = int 0; 2 = indexcheck 0 1; 3:int = get 0 1; 4 = indexcheck 0 3; 5:int = get 0 3; 6 = print 5; return"},
		{"var l [ ] * P ; print ( len ( l ) + len ( l ) ) ;", "0:[]*0 = nil; 1:int = len 0; 2:int = len 0; 3:int = add 1 2; 4 = print 3; return"},
	})
}

func TestLowerOfConversions(t *testing.T) {
	wantOneBlock(t, "", [][2]string{
		{"print int ( 0f4008000000000000 ) ;", "0:float = float 3; 1:int = toint 0; 2 = print 1; return"},
		{"print float ( 3 ) ;", "0:int = int 3; 1:float = tofloat 0; 2 = fprint 1; return"},
		{"print int ( float ( int ( float ( read ) ) ) ) ;", "0:int = read; 1:float = tofloat 0; 2:int = toint 1; 3:float = tofloat 2; 4:int = toint 3; 5 = print 4; return"},
	})
}

// TestLowerOfEachOp: of ints, of floats, of pointers, both Kids ahead of all.
func TestLowerOfEachOp(t *testing.T) {
	for op, sign := range []string{"+", "-", "*", "/", "%", "<", "=="} {
		want := "0:int = read; 1:int = read; 2:int = " + arithWords[op] + " 0 1; 3 = print 2; return"
		if op == impl.BiDiv || op == impl.BiRem {
			want = "0:int = read; 1:int = read; 2 = zerocheck 1; 3:int = " + arithWords[op] + " 0 1; 4 = print 3; return"
		}
		wantOneBlock(t, "", [][2]string{{"print ( read " + sign + " read ) ;", want}})
	}
	for _, x := range [][3]string{{"+", "fadd", "float"}, {"-", "fsub", "float"}, {"*", "fmul", "float"}, {"/", "fdiv", "float"}, {"<", "fless", "int"}, {"==", "feq", "int"}} {
		put := map[string]string{"float": "fprint", "int": "print"}[x[2]]
		want := fmt.Sprintf("0:float = float 0.5; 1:float = float 0; 2:%s = %s 0 1; 3 = %s 2; return", x[2], x[1], put)
		wantOneBlock(t, "", [][2]string{{"print ( 0f3fe0000000000000 " + x[0] + " 0f0000000000000000 ) ;", want}})
	}
	wantOneBlock(t, lowerHeads, [][2]string{
		// The divisor is asked behind both Kids, whatever is in them.
		{"print ( ( 1 / 2 ) / ( 3 % 4 ) ) ;", "0:int = int 1; 1:int = int 2; 2 = zerocheck 1; 3:int = div 0 1; 4:int = int 3; 5:int = int 4; 6 = zerocheck 5; 7:int = rem 4 5; 8 = zerocheck 7; 9:int = div 3 7; 10 = print 9; return"},
		{"print ( one ( 1 ) % nil P . a ) ;", "0:int = int 1; 1:int = call 2 0; 2:*0 = nil; 3 = nilcheck 2; 4:int = load 0 2; 5 = zerocheck 4; 6:int = rem 1 4; 7 = print 6; return"},
		{"var x int ; print ( x / x ) ;", "0:int = int 0; 1 = zerocheck 0; 2:int = div 0 0; 3 = print 2; return"},
		{"print ( ( 1 + 2 ) - ( 3 * 4 ) ) ;", "0:int = int 1; 1:int = int 2; 2:int = add 0 1; 3:int = int 3; 4:int = int 4; 5:int = mul 3 4; 6:int = sub 2 5; 7 = print 6; return"},
		{"var p * P ; print ( p == p . n ) ;", "0:*0 = nil; 1 = nilcheck 0; 2:*0 = load 2 0; 3:int = same 0 2; 4 = print 3; return"},
	})
}
