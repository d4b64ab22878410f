package tests

import (
	"testing"

	"loop.example/g00306/impl"
)

// handSource is a source, with numbers to be read, and what it puts out.
type handSource struct {
	text  string
	input []int
	want  string
}

// handSources are sources that do something of use, written by hand.
func handSources() []handSource {
	list := "type P struct { v int ; n * P ; } func push ( p * P , v int ) * P { var q * P ; q = new P ; q . v = v ; q . n = p ; return q ; } "
	return []handSource{
		{"func main ( ) { print ( read * 2 ) ; }", []int{21}, "exit: 42"},
		{"func fib ( n int ) int { if ( n < 2 ) { return n ; } else { } return ( fib ( ( n - 1 ) ) + fib ( ( n - 2 ) ) ) ; } func main ( ) { print fib ( read ) ; }", []int{10}, "exit: 55"},
		{"func down ( n int ) int { if n { return down ( ( n - 1 ) ) ; } else { return 7 ; } } func main ( ) { print down ( read ) ; }", []int{58}, "exit: 7"},
		{"func down ( n int ) int { if n { return down ( ( n - 1 ) ) ; } else { return 7 ; } } func main ( ) { print 1 ; print down ( read ) ; }", []int{59}, "deep: 1"},
		// A list is turned round and added up.
		{list + "func turn ( p * P ) * P { var r * P ; var n * P ; for ( ( p == nil P ) == 0 ) { n = p . n ; p . n = r ; r = p ; p = n ; } return r ; } func main ( ) { var p * P ; var i int ; for ( i < 6 ) { i = ( i + 1 ) ; p = push ( p , ( i * i ) ) ; } p = turn ( p ) ; for ( ( p == nil P ) == 0 ) { print p . v ; p = p . n ; } }", nil, "exit: 1 4 9 16 25 36"},
		// Numbers are put in order.
		{"func main ( ) { var l [ ] int ; var i int ; var j int ; var t int ; l = make [ ] int ( 6 ) ; for ( i < 6 ) { l [ i ] = read ; i = ( i + 1 ) ; } i = 0 ; for ( i < 6 ) { j = 0 ; for ( j < ( 5 - i ) ) { if ( l [ ( j + 1 ) ] < l [ j ] ) { t = l [ j ] ; l [ j ] = l [ ( j + 1 ) ] ; l [ ( j + 1 ) ] = t ; } else { } j = ( j + 1 ) ; } i = ( i + 1 ) ; } i = 0 ; for ( i < len ( l ) ) { print l [ i ] ; i = ( i + 1 ) ; } }", []int{5, -2, 9, 0, 3, 1}, "exit: -2 0 1 3 5 9"},
		// A tree is grown by what is read, and put out in order.
		{"type T struct { l * T ; v int ; r * T ; } func grow ( t * T , v int ) * T { if ( t == nil T ) { t = new T ; t . v = v ; return t ; } else { } if ( v < t . v ) { t . l = grow ( t . l , v ) ; } else { t . r = grow ( t . r , v ) ; } return t ; } func show ( t * T ) { if ( t == nil T ) { return ; } else { } do show ( t . l ) ; print t . v ; do show ( t . r ) ; } func main ( ) { var t * T ; var i int ; for ( i < 8 ) { t = grow ( t , read ) ; i = ( i + 1 ) ; } do show ( t ) ; }", []int{50, 20, 70, 10, 30, 60, 80, 65}, "exit: 10 20 30 50 60 65 70 80"},
		// Half of the objects are left behind each turn.
		{list + "func main ( ) { var p * P ; var i int ; var s int ; for ( i < 300 ) { p = push ( nil P , i ) ; p = push ( p , ( i + 1 ) ) ; s = ( s + ( p . v * p . n . v ) ) ; i = ( i + 1 ) ; } print s ; }", nil, "exit: 8999900"},
		{"func main ( ) { var f float ; var i int ; for ( i < 5 ) { f = ( f + ( float ( i ) / 0f4000000000000000 ) ) ; i = ( i + 1 ) ; } print f ; print int ( f ) ; print ( f < 0f4014000000000000 ) ; print ( f / 0f0000000000000000 ) ; }", nil, "exit: 0f4014000000000000 5 0 0f7ff0000000000000"},
		{"type P struct { l [ ] * P ; f [ ] float ; } func main ( ) { var p * P ; p = new P ; p . l = make [ ] * P ( 4 ) ; p . l [ 2 ] = p ; p . f = make [ ] float ( 3 ) ; p . l [ 2 ] . f [ 1 ] = 0f3ff8000000000000 ; print p . l [ 2 ] . l [ 2 ] . f [ 1 ] ; print ( p . l [ 2 ] == p ) ; print ( p . l [ 1 ] == p ) ; print len ( p . l [ 2 ] . f ) ; }", nil, "exit: 0f3ff8000000000000 1 0 3"},
		{"func swap ( a int , b int , n int ) int { var t int ; for n { t = a ; a = b ; b = t ; n = ( n - 1 ) ; } return ( ( a * 10 ) + b ) ; } func main ( ) { print swap ( 1 , 2 , 3 ) ; print swap ( 1 , 2 , 4 ) ; }", nil, "exit: 21 12"},
		{"func main ( ) { print 1 ; panic ( read - 9 ) ; }", []int{2}, "panic -7: 1"},
		{"type P struct { n * P ; } func main ( ) { var p * P ; print 1 ; p . n = p ; }", nil, "trap nil: 1"},
		{"func main ( ) { var l [ ] int ; print len ( l ) ; print l [ 0 ] ; }", nil, "trap index: 0"},
		{"func main ( ) { var l [ ] int ; l = make [ ] int ( 3 ) ; print l [ 2 ] ; l [ 3 ] = 1 ; }", nil, "trap index: 0"},
		{"func main ( ) { print 5 ; print ( 1 % read ) ; }", nil, "trap zero: 5"},
		{"func main ( ) { print len ( make [ ] int ( 100 ) ) ; print len ( make [ ] float ( 101 ) ) ; }", nil, "trap make: 100"},
	}
}

// TestHandSourcesEmitted: with each list of passes, in setups of all kinds, what the source means.
func TestHandSourcesEmitted(t *testing.T) {
	t.Parallel()
	memory, moves, copies := 0, 0, 0
	for _, x := range handSources() {
		s := wellTyped(t, x.text)
		if got := plainText(impl.Eval(s, x.input, impl.MaxFuel)); got != x.want {
			t.Errorf("%s: %s, want %s", x.text, got, x.want)
		}
		u, ok := impl.Lower(s)
		if !ok {
			t.Fatalf("not lowered: %s", x.text)
		}
		for _, passes := range somePasses() {
			o, _ := impl.Optimize(u, passes)
			m, ok := impl.Emit(o)
			wantEmitSecond(t, o, m, ok)
			for n, setup := range emitSetups(newMaker(spread(400), len(passes)), x.input, 40000) {
				_, r := wantRunAlike(t, o, m, setup)
				if got := plainText(impl.Outcome{End: r.End, Code: r.Code, Out: r.Out}); r.End != impl.EndMemory && got != x.want || r.End == impl.EndMemory && n == 0 {
					t.Fatalf("%s\nbehind %v, with %s: %s\nwant: %s", x.text, passes, showSetup(setup), got, x.want)
				}
				if r.End == impl.EndMemory {
					memory++
				}
				moves, copies = moves+r.Moves, copies+r.Copies
			}
		}
	}
	t.Logf("%d ended for want of memory, %d moves, %d copies", memory, moves, copies)
	if memory == 0 || moves < 50000 || copies < 3000 {
		t.Error("too little was moved")
	}
}

// TestEmittedInTheLeastRoom: with each half from the least one on, where it does not end for want of memory it does what
// it does with most room.
func TestEmittedInTheLeastRoom(t *testing.T) {
	t.Parallel()
	for _, x := range handSources() {
		u, _ := impl.Lower(wellTyped(t, x.text))
		m, ok := impl.Emit(u)
		if !ok {
			t.Fatalf("refused: %s", x.text)
		}
		enough := false
		for half := impl.MinHalf; half < 140; half++ {
			r := impl.RunImage(m, impl.Setup{Half: half, Stack: impl.MinStack + half%17, Fuel: 40000, Input: x.input})
			got := plainText(impl.Outcome{End: r.End, Code: r.Code, Out: r.Out})
			if enough && r.End == impl.EndMemory || r.End != impl.EndMemory && got != x.want {
				t.Fatalf("%s\nwith a half of %d: %s\nwant: %s", x.text, half, got, x.want)
			}
			enough = enough || r.End != impl.EndMemory
		}
		if !enough {
			t.Errorf("none is enough for %s", x.text)
		}
	}
}
