package tests

import (
	"fmt"
	"strings"
	"testing"

	"loop.example/g00306/impl"
)

// TestDeepCalls: MaxCalls calls, main's too, may be under way, and not one more.
func TestDeepCalls(t *testing.T) {
	down := "func down ( n int ) int { if n { return down ( ( n - 1 ) ) ; } else { } return 5 ; }"
	// With n there are n + 2 calls under way, one of them main's.
	for n, want := range map[int]string{0: "exit: 5", 1: "exit: 5", impl.MaxCalls - 3: "exit: 5", impl.MaxCalls - 2: "exit: 5", impl.MaxCalls - 1: "deep:", impl.MaxCalls: "deep:", 1000: "deep:", -1: "deep:"} {
		wantRun(t, mainText(down, fmt.Sprintf("print down ( %d ) ;", n)), nil, want)
	}
	// So many calls one behind the other are not under way together.
	wantRun(t, mainText(down, "var i int ; var s int ; for ( i < 200 ) { s = ( s + down ( 20 ) ) ; i = ( i + 1 ) ; } print s ;"), nil, "exit: 1000")
	o := run(t, wellTyped(t, mainText(down, fmt.Sprintf("var i int ; for ( i < 3 ) { print down ( %d ) ; i = ( i + 1 ) ; } print down ( %d ) ;", impl.MaxCalls-2, impl.MaxCalls-1))), nil)
	if plainText(o) != "deep: 5 5 5" {
		t.Error(plainText(o))
	}
}

// TestDeepByOtherWays: main that calls itself, two that call each other, calls without a result.
func TestDeepByOtherWays(t *testing.T) {
	outs := func(count int) string { return strings.TrimSpace("deep: " + strings.Repeat("1 ", count)) }
	wantRun(t, "func main ( ) { print 1 ; do main ( ) ; }", nil, outs(impl.MaxCalls))
	wantRun(t, "func main ( ) { for 1 { print 1 ; do main ( ) ; } }", nil, outs(impl.MaxCalls))
	wantRun(t, "func f ( ) { print 1 ; do g ( ) ; } func g ( ) { do f ( ) ; } func main ( ) { do f ( ) ; }", nil, outs(impl.MaxCalls/2))
	wantRun(t, "func f ( ) { print 1 ; do f ( ) ; } func main ( ) { do f ( ) ; }", nil, outs(impl.MaxCalls-1))
	// The arguments come ahead of that it is too deep; a trap in them counts, and what they put out.
	wantRun(t, "func say ( x int ) int { print x ; return x ; } func f ( x int ) int { return f ( say ( 1 ) ) ; } func main ( ) { do f ( 1 ) ; }", nil, outs(impl.MaxCalls-2))
	wantRun(t, "func f ( x int ) { print 1 ; do f ( ( x - 1 ) ) ; } func main ( ) { do f ( 1 ) ; }", nil, outs(impl.MaxCalls-1))
	wantRun(t, "func f ( n int , x int ) { do f ( ( n - 1 ) , ( 1 / n ) ) ; } func main ( ) { do f ( 30 , 1 ) ; }", nil, "trap zero:")
	wantRun(t, fmt.Sprintf("func f ( n int , x int ) { do f ( ( n - 1 ) , ( 1 / n ) ) ; } func main ( ) { do f ( %d , 1 ) ; }", impl.MaxCalls-2), nil, "trap zero:")
	wantRun(t, fmt.Sprintf("func f ( n int , x int ) { do f ( ( n - 1 ) , ( 1 / n ) ) ; } func main ( ) { do f ( %d , 1 ) ; }", impl.MaxCalls-1), nil, "deep:")
}

// TestDeepAndDeepTrees: calls under way and trees of MaxDeep parts at once.
func TestDeepAndDeepTrees(t *testing.T) {
	deep := "down ( ( n - 1 ) )"
	for range impl.MaxDeep - 6 {
		deep = "( " + deep + " + 1 )"
	}
	text := "func down ( n int ) int { if ( n < 1 ) { return 0 ; } else { return " + deep + " ; } } func main ( ) { print down ( read ) ; }"
	wantRun(t, text, []int{impl.MaxCalls - 2}, fmt.Sprintf("exit: %d", (impl.MaxCalls-2)*(impl.MaxDeep-6)))
	wantRun(t, text, []int{impl.MaxCalls - 1}, "deep:")
}

func TestCallsInCalls(t *testing.T) {
	heads := `func add ( a int , b int ) int { return ( a + b ) ; }
func twice ( x int ) int { return add ( x , x ) ; }
func fib ( n int ) int { if ( n < 2 ) { return n ; } else { return ( fib ( ( n - 1 ) ) + fib ( ( n - 2 ) ) ) ; } }
func ack ( m int , n int ) int { if ( m == 0 ) { return ( n + 1 ) ; } else { if ( n == 0 ) { return ack ( ( m - 1 ) , 1 ) ; } else { return ack ( ( m - 1 ) , ack ( m , ( n - 1 ) ) ) ; } } }
func even ( n int ) int { if n { return odd ( ( n - 1 ) ) ; } else { return 1 ; } }
func odd ( n int ) int { if n { return even ( ( n - 1 ) ) ; } else { return 0 ; } }`
	wantRuns(t, heads, nil, [][2]string{
		{"print add ( add ( 1 , 2 ) , add ( 3 , add ( 4 , 5 ) ) ) ;", "exit: 15"},
		{"print twice ( twice ( twice ( 3 ) ) ) ;", "exit: 24"},
		{"print fib ( 15 ) ;", "exit: 610"},
		{"print ack ( 2 , 3 ) ;", "exit: 9"},
		{"print even ( 10 ) ; print even ( 7 ) ; print odd ( 7 ) ;", "exit: 1 0 1"},
		{"do add ( 1 , 2 ) ; do twice ( twice ( 1 ) ) ;", "exit:"},
		{"var x int ; x = add ( x , twice ( 4 ) ) ; if even ( x ) { print x ; } else { }", "exit: 8"},
	})
}

// TestReturns: out of loops, out of ifs, and at the end without one.
func TestReturns(t *testing.T) {
	heads := `func loop ( n int ) int { var i int ; for 1 { if ( i == n ) { return ( i * 10 ) ; } else { } i = ( i + 1 ) ; } return -1 ; }
func inner ( n int ) int { for 1 { for 1 { for 1 { if n { return 7 ; } else { return 8 ; } } } } return -1 ; }
func pick ( n int ) int { if ( n < 0 ) { return -1 ; } else { if n { return 1 ; } else { } } return 0 ; }
func none ( n int ) { for n { if ( n == 2 ) { print 22 ; return ; } else { } n = ( n - 1 ) ; } print n ; }
func open ( n int ) { if n { print 5 ; } else { return ; } print 6 ; }
func deepr ( n int ) int { if 1 { if 1 { if 1 { for n { return n ; } } else { } } else { } } else { } return 99 ; }`
	wantRuns(t, heads, nil, [][2]string{
		{"print loop ( 0 ) ; print loop ( 4 ) ;", "exit: 0 40"},
		{"print inner ( 0 ) ; print inner ( 1 ) ;", "exit: 8 7"},
		{"print pick ( -5 ) ; print pick ( 5 ) ; print pick ( 0 ) ;", "exit: -1 1 0"},
		{"do none ( 0 ) ; do none ( 1 ) ; do none ( 5 ) ; print 9 ;", "exit: 0 0 22 9"},
		{"do open ( 0 ) ; do open ( 1 ) ; print 7 ;", "exit: 5 6 7"},
		{"print deepr ( 3 ) ; print deepr ( 0 ) ;", "exit: 3 99"},
		// The caller goes on behind the call, whatever block it stands in.
		{"var i int ; for ( i < 3 ) { if 1 { print inner ( i ) ; } else { } i = ( i + 1 ) ; } print 0 ;", "exit: 8 7 7 0"},
		// Of main, too.
		{"for 1 { print 1 ; return ; }", "exit: 1"},
		{"if 1 { for 1 { if 1 { print 1 ; return ; } else { } } } else { } print 2 ;", "exit: 1"},
	})
}

// TestVariablesOfCalls: each call has its own, and the caller's hold what they did.
func TestVariablesOfCalls(t *testing.T) {
	heads := `func spoil ( a int , b int ) int { var c int ; a = 100 ; b = 200 ; c = 300 ; return c ; }
func keep ( a int , b int ) int { var c int ; c = 3 ; do spoil ( a , b ) ; return ( ( ( a * 100 ) + ( b * 10 ) ) + c ) ; }
func down ( n int ) { var m int ; m = ( n * n ) ; if n { do down ( ( n - 1 ) ) ; } else { } print n ; print m ; }
func float1 ( x float ) float { x = ( x + x ) ; return x ; }`
	wantRuns(t, heads, nil, [][2]string{
		{"var a int ; var b int ; var c int ; a = 1 ; b = 2 ; c = 3 ; do spoil ( a , b ) ; print a ; print b ; print c ;", "exit: 1 2 3"},
		{"print keep ( 4 , 5 ) ;", "exit: 453"},
		{"do down ( 3 ) ;", "exit: 0 0 1 1 2 4 3 9"},
		{"var x float ; x = 0f3ff0000000000000 ; print float1 ( x ) ; print x ;", "exit: 0f4000000000000000 0f3ff0000000000000"},
		{"var a int ; a = 1 ; a = ( a + spoil ( a , a ) ) ; print a ;", "exit: 301"},
		{"var a int ; a = spoil ( a , spoil ( a , 1 ) ) ; print a ;", "exit: 300"},
	})
	// A variable of a call that is over is zero at first in the next one.
	wantRun(t, "func f ( ) int { var x int ; x = ( x + 1 ) ; return x ; } func main ( ) { print f ( ) ; print f ( ) ; print ( f ( ) + f ( ) ) ; }", nil, "exit: 1 1 2")
	// More variables than Params, declared in all sorts of blocks, one name in two functions.
	wantRun(t, "func f ( a int ) int { if a { var b int ; b = a ; for b { var c int ; c = ( b * 2 ) ; return c ; } } else { var d int ; return ( d - 1 ) ; } var e int ; e = 5 ; return e ; } func main ( ) { var a int ; var c int ; c = f ( 4 ) ; print c ; print f ( a ) ; }", nil, "exit: 8 -1")
}

// TestDeclaredAgain: a StVar that is done once more is zero once more.
func TestDeclaredAgain(t *testing.T) {
	wantRuns(t, "type P struct { a int ; }", nil, [][2]string{
		{"var i int ; for ( i < 3 ) { var x int ; print x ; x = ( i + 7 ) ; print x ; i = ( i + 1 ) ; }", "exit: 0 7 0 8 0 9"},
		{"var i int ; for ( i < 2 ) { var x float ; print x ; x = 0f3ff0000000000000 ; print x ; i = ( i + 1 ) ; }", "exit: 0f0000000000000000 0f3ff0000000000000 0f0000000000000000 0f3ff0000000000000"},
		{"var i int ; for ( i < 2 ) { var p * P ; print ( p == nil P ) ; p = new P ; print ( p == nil P ) ; i = ( i + 1 ) ; }", "exit: 1 0 1 0"},
		{"var i int ; for ( i < 2 ) { var l [ ] int ; print len ( l ) ; l = make [ ] int ( 4 ) ; print len ( l ) ; i = ( i + 1 ) ; }", "exit: 0 4 0 4"},
		{"var i int ; for ( i < 4 ) { if ( i % 2 ) { var x int ; x = ( x + i ) ; print x ; } else { var y int ; y = ( y - i ) ; print y ; } i = ( i + 1 ) ; }", "exit: 0 1 -2 3"},
		{"var s int ; var i int ; for ( i < 3 ) { s = ( s + i ) ; i = ( i + 1 ) ; } print s ;", "exit: 3"},
	})
}

// TestFunctionsInAnyPlace: main may stand first, last or between.
func TestFunctionsInAnyPlace(t *testing.T) {
	f, g, main := "func f ( x int ) int { return ( x + 1 ) ; } ", "func g ( x int ) int { return ( f ( x ) * 2 ) ; } ", "func main ( ) { print g ( f ( 3 ) ) ; } "
	for _, text := range []string{main + f + g, f + main + g, g + f + main, g + main + f} {
		wantRun(t, text, nil, "exit: 10")
	}
	var many strings.Builder
	for n := range impl.MaxFuncs - 1 {
		fmt.Fprintf(&many, "func f%d ( a int , b int , c int , d int ) int { return ( ( ( a - b ) * c ) + ( d + %d ) ) ; } ", n, n)
	}
	wantRun(t, mainText(many.String(), "print f0 ( 7 , 5 , 3 , 1 ) ; print f6 ( 1 , 2 , 3 , 4 ) ; print f3 ( f1 ( 1 , 1 , 1 , 1 ) , 0 , 1 , 0 ) ;"), nil, "exit: 7 7 5")
}
