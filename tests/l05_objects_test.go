package tests

import (
	"fmt"
	"math"
	"strings"
	"testing"

	"loop.example/g00306/impl"
)

// objectHeads have a struct with a field of each type, one without fields, and functions that change what they are handed.
const objectHeads = `type E struct { }
type P struct { a int ; f float ; n * P ; }
type Q struct { is [ ] int ; fs [ ] float ; ps [ ] * P ; e * E ; q * Q ; }
func seta ( p * P , x int ) { p . a = x ; }
func puti ( l [ ] int , at int , x int ) { l [ at ] = x ; }
func same ( p * P ) * P { return p ; }
func list ( n int ) [ ] int { return make [ ] int ( n ) ; }`

func TestPointersAreShared(t *testing.T) {
	wantRuns(t, objectHeads, nil, [][2]string{
		{"var p * P ; var q * P ; p = new P ; q = p ; q . a = 5 ; print p . a ; p . a = 6 ; print q . a ;", "exit: 5 6"},
		{"var p * P ; p = new P ; do seta ( p , 9 ) ; print p . a ;", "exit: 9"},
		{"var p * P ; p = new P ; same ( p ) . a = 4 ; print p . a ; print ( same ( p ) == p ) ;", "exit: 4 1"},
		{"var p * P ; p = new P ; p . n = new P ; var q * P ; q = p . n ; q . a = 3 ; print p . n . a ; print p . a ;", "exit: 3 0"},
		{"var p * P ; p = new P ; p . n = p ; p . n . n . n . a = 8 ; print p . a ;", "exit: 8"},
		{"var l [ ] * P ; l = make [ ] * P ( 2 ) ; var p * P ; p = new P ; l [ 0 ] = p ; l [ 1 ] = p ; l [ 0 ] . a = 7 ; print l [ 1 ] . a ; print p . a ;", "exit: 7 7"},
		// One that is set anew leaves the old one as it was.
		{"var p * P ; var q * P ; p = new P ; p . a = 1 ; q = p ; p = new P ; p . a = 2 ; print q . a ; print p . a ;", "exit: 1 2"},
		{"var p * P ; var q * P ; p = new P ; q = p ; p = nil P ; q . a = 1 ; print q . a ; print ( p == q ) ;", "exit: 1 0"},
	})
}

func TestListsAreShared(t *testing.T) {
	wantRuns(t, objectHeads, nil, [][2]string{
		{"var l [ ] int ; var m [ ] int ; l = make [ ] int ( 2 ) ; m = l ; m [ 1 ] = 5 ; print l [ 1 ] ; l [ 0 ] = 6 ; print m [ 0 ] ;", "exit: 5 6"},
		{"var l [ ] int ; l = list ( 3 ) ; do puti ( l , 2 , 9 ) ; print l [ 2 ] ; print l [ 1 ] ;", "exit: 9 0"},
		{"var q * Q ; q = new Q ; q . is = make [ ] int ( 2 ) ; var l [ ] int ; l = q . is ; l [ 0 ] = 4 ; print q . is [ 0 ] ; q . is [ 1 ] = 5 ; print l [ 1 ] ;", "exit: 4 5"},
		{"var q * Q ; q = new Q ; q . q = new Q ; q . is = make [ ] int ( 1 ) ; q . q . is = q . is ; q . q . is [ 0 ] = 3 ; print q . is [ 0 ] ;", "exit: 3"},
		{"var l [ ] float ; var m [ ] float ; l = make [ ] float ( 1 ) ; m = l ; m [ 0 ] = 0f3ff0000000000000 ; print l [ 0 ] ;", "exit: 0f3ff0000000000000"},
		{"var l [ ] * P ; var m [ ] * P ; l = make [ ] * P ( 2 ) ; m = l ; m [ 0 ] = new P ; print ( l [ 0 ] == nil P ) ; print ( l [ 0 ] == m [ 0 ] ) ; print ( l [ 1 ] == nil P ) ;", "exit: 0 1 1"},
		{"var l [ ] int ; var m [ ] int ; l = make [ ] int ( 2 ) ; m = l ; l = make [ ] int ( 3 ) ; l [ 0 ] = 1 ; print m [ 0 ] ; print len ( m ) ;", "exit: 0 2"},
	})
}

// TestZeroAtFirst: fields, places and variables, of each type.
func TestZeroAtFirst(t *testing.T) {
	wantRuns(t, objectHeads, nil, [][2]string{
		{"var x int ; print x ;", "exit: 0"},
		{"var x float ; print x ;", "exit: 0f0000000000000000"},
		{"var p * P ; print ( p == nil P ) ; print p . a ;", "trap nil: 1"},
		{"var l [ ] int ; print len ( l ) ; print l [ 0 ] ;", "trap index: 0"},
		{"var l [ ] float ; print len ( l ) ; l [ 0 ] = 0f0000000000000000 ;", "trap index: 0"},
		{"var l [ ] * P ; print len ( l ) ; print l [ 0 ] . a ;", "trap index: 0"},
		{"var p * P ; p = new P ; print p . a ; print p . f ; print ( p . n == nil P ) ;", "exit: 0 0f0000000000000000 1"},
		{"var q * Q ; q = new Q ; print len ( q . is ) ; print len ( q . fs ) ; print len ( q . ps ) ; print ( q . e == nil E ) ; print ( q . q == nil Q ) ;", "exit: 0 0 0 1 1"},
		{"var l [ ] int ; l = make [ ] int ( 3 ) ; print l [ 0 ] ; print l [ 1 ] ; print l [ 2 ] ;", "exit: 0 0 0"},
		{"var l [ ] float ; l = make [ ] float ( 2 ) ; print l [ 0 ] ; print l [ 1 ] ;", "exit: 0f0000000000000000 0f0000000000000000"},
		{"var l [ ] * P ; l = make [ ] * P ( 2 ) ; print ( l [ 0 ] == nil P ) ; print ( l [ 1 ] == nil P ) ; print l [ 1 ] . a ;", "trap nil: 1 1"},
		// New ones are zero, whatever was done with those ahead.
		{"var i int ; for ( i < 3 ) { var p * P ; p = new P ; print p . a ; p . a = 5 ; i = ( i + 1 ) ; }", "exit: 0 0 0"},
		{"var i int ; for ( i < 3 ) { var l [ ] int ; l = make [ ] int ( 2 ) ; print l [ 1 ] ; l [ 1 ] = 5 ; i = ( i + 1 ) ; }", "exit: 0 0 0"},
	})
}

func TestMakeAtItsEnds(t *testing.T) {
	for _, list := range []string{"int", "float", "* P"} {
		for n, want := range map[int]string{0: "exit: 0", 1: "exit: 1", impl.MaxMake - 1: fmt.Sprint("exit: ", impl.MaxMake-1), impl.MaxMake: fmt.Sprint("exit: ", impl.MaxMake), impl.MaxMake + 1: "trap make:", -1: "trap make:", math.MinInt: "trap make:", math.MaxInt: "trap make:", 1 << 32: "trap make:"} {
			wantRun(t, mainText(objectHeads, fmt.Sprintf("print len ( make [ ] %s ( %d ) ) ;", list, n)), nil, want)
			wantRun(t, mainText(objectHeads, fmt.Sprintf("print len ( make [ ] %s ( read ) ) ;", list)), []int{n}, want)
		}
	}
}

// TestIndexAtItsEnds: of lists of all sizes, on both sides.
func TestIndexAtItsEnds(t *testing.T) {
	for _, size := range []int{0, 1, 2, impl.MaxMake} {
		for _, at := range []int{math.MinInt, math.MinInt + 1, -impl.MaxMake, -1, 0, 1, 2, impl.MaxMake - 1, impl.MaxMake, impl.MaxMake + 1, 1 << 32, math.MaxInt} {
			ok := at >= 0 && at < size
			got, set := "trap index:", "trap index:"
			if ok {
				got, set = "exit: 0", "exit: 7"
			}
			wantRun(t, mainText("", "print make [ ] int ( read ) [ read ] ;"), []int{size, at}, got)
			wantRun(t, mainText("", "var l [ ] int ; l = make [ ] int ( read ) ; var at int ; at = read ; l [ at ] = 7 ; print l [ at ] ;"), []int{size, at}, set)
		}
	}
	for _, at := range []int{math.MinInt, -1, 0, 1, math.MaxInt} {
		for _, list := range []string{"int", "float", "* P"} {
			wantRun(t, mainText(objectHeads, fmt.Sprintf("var l [ ] %s ; var m [ ] %s ; m = make [ ] %s ( 3 ) ; m [ 0 ] = l [ read ] ;", list, list, list)), []int{at}, "trap index:")
			wantRun(t, mainText(objectHeads, fmt.Sprintf("var l [ ] %s ; var m [ ] %s ; m = make [ ] %s ( 3 ) ; l [ read ] = m [ 0 ] ;", list, list, list)), []int{at}, "trap index:")
		}
	}
}

func TestFieldOfNil(t *testing.T) {
	wantRuns(t, objectHeads, nil, [][2]string{
		{"print nil P . a ;", "trap nil:"},
		{"nil P . a = 1 ;", "trap nil:"},
		{"var p * P ; print p . f ;", "trap nil:"},
		{"var p * P ; p . f = 0f0000000000000000 ;", "trap nil:"},
		{"print new P . n . a ;", "trap nil:"},
		{"new P . n . a = 1 ;", "trap nil:"},
		{"new P . n . n = nil P ;", "trap nil:"},
		{"print len ( nil Q . is ) ;", "trap nil:"},
		{"var q * Q ; q = new Q ; q . q . q = q ;", "trap nil:"},
		{"var l [ ] * P ; l = make [ ] * P ( 1 ) ; l [ 0 ] . a = 1 ;", "trap nil:"},
		{"var p * P ; p = new P ; p = nil P ; print p . a ;", "trap nil:"},
		{"do seta ( nil P , 1 ) ;", "trap nil:"},
	})
}

func TestLengths(t *testing.T) {
	wantRuns(t, objectHeads, nil, [][2]string{
		{"var l [ ] int ; print len ( l ) ; l = make [ ] int ( 0 ) ; print len ( l ) ; l = make [ ] int ( 5 ) ; print len ( l ) ;", "exit: 0 0 5"},
		{"print len ( new Q . ps ) ; print len ( make [ ] * P ( 4 ) ) ; print len ( list ( 100 ) ) ;", "exit: 0 4 100"},
		{"print make [ ] int ( 0 ) [ 0 ] ;", "trap index:"},
	})
}

func TestPointersThatAreOne(t *testing.T) {
	wantRuns(t, objectHeads, nil, [][2]string{
		{"print ( nil P == nil P ) ;", "exit: 1"},
		{"var p * P ; print ( p == nil P ) ; print ( nil P == p ) ; print ( p == p ) ;", "exit: 1 1 1"},
		{"var p * P ; p = new P ; print ( p == p ) ; print ( p == nil P ) ; print ( nil P == p ) ;", "exit: 1 0 0"},
		{"print ( new P == new P ) ;", "exit: 0"},
		// Two of like fields, and two without any.
		{"var p * P ; var q * P ; p = new P ; q = new P ; print ( p == q ) ; p . a = 3 ; q . a = 3 ; print ( p == q ) ; q = p ; print ( p == q ) ;", "exit: 0 0 1"},
		{"var p * E ; var q * E ; p = new E ; q = new E ; print ( p == q ) ; print ( new E == new E ) ; print ( q == q ) ; print ( p == nil E ) ;", "exit: 0 0 1 0"},
		{"var p * P ; p = new P ; p . n = p ; print ( p . n . n == p ) ; p . n = new P ; print ( p . n == p ) ; print ( p . n == p . n ) ; print ( p . n . n == nil P ) ;", "exit: 1 0 1 1"},
		{"var l [ ] * P ; l = make [ ] * P ( 3 ) ; l [ 0 ] = new P ; l [ 1 ] = l [ 0 ] ; l [ 2 ] = new P ; print ( l [ 0 ] == l [ 1 ] ) ; print ( l [ 1 ] == l [ 2 ] ) ;", "exit: 1 0"},
	})
}

// TestManyObjects: there may be as many as the fuel makes; each keeps what it holds.
func TestManyObjects(t *testing.T) {
	text := mainText("type N struct { v int ; n * N ; l [ ] int ; }", "var p * N ; var i int ; for ( i < 4000 ) { var q * N ; q = new N ; q . v = i ; q . n = p ; q . l = make [ ] int ( 100 ) ; q . l [ 99 ] = ( i * 2 ) ; p = q ; i = ( i + 1 ) ; } var s int ; var u int ; for ( ( p == nil N ) == 0 ) { s = ( s + p . v ) ; u = ( u + p . l [ 99 ] ) ; p = p . n ; } print s ; print u ;")
	wantRun(t, text, nil, "exit: 7998000 15996000")
	// Those that nobody holds any more.
	o := run(t, wellTyped(t, "func f ( a [ ] int , b [ ] int , c [ ] int , d [ ] int ) { } func main ( ) { for 1 { do f ( make [ ] int ( 100 ) , make [ ] int ( 100 ) , make [ ] int ( 100 ) , make [ ] int ( 100 ) ) ; } }"), nil)
	if o.End != impl.EndFuel {
		t.Error(outcomeText(o))
	}
}

// TestSort is a longer source: numbers that are read are put into order, by lists, calls and loops.
func TestSort(t *testing.T) {
	heads := "func swap ( l [ ] int , i int , j int ) { var x int ; x = l [ i ] ; l [ i ] = l [ j ] ; l [ j ] = x ; } func sort ( l [ ] int ) { var i int ; for ( i < len ( l ) ) { var j int ; for ( j < ( len ( l ) - 1 ) ) { if ( l [ ( j + 1 ) ] < l [ j ] ) { do swap ( l , j , ( j + 1 ) ) ; } else { } j = ( j + 1 ) ; } i = ( i + 1 ) ; } }"
	text := mainText(heads, "var l [ ] int ; l = make [ ] int ( read ) ; var i int ; for ( i < len ( l ) ) { l [ i ] = read ; i = ( i + 1 ) ; } do sort ( l ) ; i = 0 ; for ( i < len ( l ) ) { print l [ i ] ; i = ( i + 1 ) ; }")
	wantRun(t, text, []int{7, 3, -1, 9, 0, math.MinInt, math.MaxInt, 3}, strings.Join([]string{"exit:", fmt.Sprint(math.MinInt), "-1 0 3 3 9", fmt.Sprint(math.MaxInt)}, " "))
}
