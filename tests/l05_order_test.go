package tests

import (
	"testing"
)

// orderHeads are functions that tell by what they put out when they were called.
const orderHeads = `type P struct { a int ; n * P ; l [ ] int ; }
func say ( x int ) int { print x ; return x ; }
func sayp ( x int , p * P ) * P { print x ; return p ; }
func sayl ( x int , l [ ] int ) [ ] int { print x ; return l ; }
func sayf ( x int ) float { print x ; return float ( x ) ; }
func four ( a int , b int , c int , d int ) int { print a ; print b ; print c ; print d ; return ( ( ( ( ( ( a * 10 ) + b ) * 10 ) + c ) * 10 ) + d ) ; }`

// TestLeftSideFirst: its Kids come ahead of the right side, in order.
func TestLeftSideFirst(t *testing.T) {
	wantRuns(t, orderHeads, []int{1, 2, 3}, [][2]string{
		{"sayp ( 1 , new P ) . a = say ( 2 ) ;", "exit: 1 2"},
		{"sayl ( 1 , make [ ] int ( 9 ) ) [ say ( 2 ) ] = say ( 3 ) ;", "exit: 1 2 3"},
		{"sayp ( say ( 1 ) , new P ) . n = sayp ( say ( 2 ) , nil P ) ;", "exit: 1 1 2 2"},
		{"var l [ ] int ; l = make [ ] int ( 4 ) ; l [ read ] = read ; print l [ 1 ] ; print l [ 2 ] ;", "exit: 2 0"},
		{"var l [ ] int ; l = make [ ] int ( 4 ) ; l [ ( read + read ) ] = read ; print l [ 3 ] ;", "exit: 3"},
		{"var x int ; x = say ( 5 ) ; print x ;", "exit: 5 5"},
		// A trap among the Kids of the left side comes ahead of all of the right side.
		{"make [ ] int ( 9 ) [ ( 1 / 0 ) ] = say ( 2 ) ;", "trap zero:"},
		{"nil P . n . a = say ( 2 ) ;", "trap nil:"},
		{"nil P . l [ say ( 1 ) ] = say ( 2 ) ;", "trap nil:"},
		{"make [ ] int ( 101 ) [ say ( 1 ) ] = say ( 2 ) ;", "trap make:"},
	})
}

// TestLeftSideAskedLast: whether it is nil or has no such place comes behind the right side.
func TestLeftSideAskedLast(t *testing.T) {
	wantRuns(t, orderHeads, nil, [][2]string{
		{"nil P . a = say ( 2 ) ;", "trap nil: 2"},
		{"nil P . a = ( 1 / 0 ) ;", "trap zero:"},
		{"nil P . a = make [ ] int ( 0 ) [ 0 ] ;", "trap index:"},
		{"nil P . n = new P . n . n ;", "trap nil:"},
		{"nil P . l = make [ ] int ( -1 ) ;", "trap make:"},
		{"make [ ] int ( 0 ) [ 0 ] = say ( 2 ) ;", "trap index: 2"},
		{"make [ ] int ( 0 ) [ 0 ] = ( 1 % 0 ) ;", "trap zero:"},
		{"make [ ] int ( 0 ) [ 0 ] = nil P . a ;", "trap nil:"},
		{"new P . l [ -1 ] = say ( 2 ) ;", "trap index: 2"},
		{"sayl ( 1 , new P . l ) [ say ( -1 ) ] = say ( 2 ) ;", "trap index: 1 -1 2"},
	})
	// A panic on the right, in a function, too.
	wantRuns(t, orderHeads+" func bad ( ) int { panic 77 ; }", nil, [][2]string{
		{"nil P . a = bad ( ) ;", "panic 77:"},
		{"new P . l [ 5 ] = bad ( ) ;", "panic 77:"},
	})
	wantRuns(t, orderHeads+" func deep ( x int ) int { return deep ( ( x + 1 ) ) ; }", nil, [][2]string{
		{"nil P . a = deep ( 1 ) ;", "deep:"},
		{"new P . l [ 5 ] = deep ( 1 ) ;", "deep:"},
	})
}

// TestRightSideChangesTheLeft: what was evaluated of the left side stays, what it leads to is as it is behind the right side.
func TestRightSideChangesTheLeft(t *testing.T) {
	heads := `type P struct { a int ; n * P ; l [ ] int ; }
func swap ( p * P ) int { p . n = new P ; p . n . a = 5 ; return 9 ; }
func cut ( p * P ) int { p . n = nil P ; return 9 ; }
func relist ( p * P ) int { p . l = make [ ] int ( 1 ) ; return 9 ; }
func write ( p * P ) int { p . a = 4 ; return 9 ; }
func put ( l [ ] int ) int { l [ 0 ] = 4 ; l [ 1 ] = 6 ; return 9 ; }
func grow ( p * P ) int { p . l = make [ ] int ( 7 ) ; return 9 ; }`
	begin := "var p * P ; var q * P ; p = new P ; q = new P ; p . n = q ; p . l = make [ ] int ( 3 ) ; var l [ ] int ; l = p . l ; "
	wantRuns(t, heads, nil, [][2]string{
		// The struct that was there ahead of the right side is set.
		{begin + "p . n . a = swap ( p ) ; print q . a ; print p . n . a ;", "exit: 9 5"},
		{begin + "p . n . a = cut ( p ) ; print q . a ; print ( p . n == nil P ) ;", "exit: 9 1"},
		// So is the list, with the place that it had.
		{begin + "p . l [ 2 ] = relist ( p ) ; print l [ 2 ] ; print len ( p . l ) ; print p . l [ 0 ] ;", "exit: 9 1 0"},
		{begin + "p . l [ 5 ] = grow ( p ) ;", "trap index:"},
		// What the right side sets there itself is written over.
		{begin + "p . a = write ( p ) ; print p . a ;", "exit: 9"},
		{begin + "l [ 0 ] = put ( l ) ; print l [ 0 ] ; print l [ 1 ] ;", "exit: 9 6"},
		// A place that was read ahead of the right side does not change by it.
		{begin + "l [ l [ 0 ] ] = put ( l ) ; print l [ 0 ] ; print l [ 1 ] ;", "exit: 9 6"},
		{begin + "l [ l [ 1 ] ] = ( l [ 0 ] + put ( l ) ) ; print l [ 0 ] ; print l [ 1 ] ;", "exit: 9 6"},
	})
	// A nil that the right side fills stays nil on the left.
	wantRun(t, mainText(heads+" func fill ( q * P ) int { q . n = new P ; return 1 ; }", "var q * P ; q = new P ; q . n . a = fill ( q ) ;"), nil, "trap nil:")
	wantRun(t, mainText(heads, "var q * P ; q = new P ; q . l [ 0 ] = grow ( q ) ;"), nil, "trap index:")
}

func TestTwoReadsInOrder(t *testing.T) {
	wantRuns(t, orderHeads, []int{20, 3, 1}, [][2]string{
		{"print ( read - read ) ;", "exit: 17"},
		{"print ( read / read ) ;", "exit: 6"},
		{"print ( read % read ) ;", "exit: 2"},
		{"print ( read < read ) ;", "exit: 0"},
		{"print ( ( read - read ) - read ) ;", "exit: 16"},
		{"print ( read - ( read - read ) ) ;", "exit: 18"},
		{"print four ( read , read , read , read ) ;", "exit: 20 3 1 0 20310"},
		{"print make [ ] int ( read ) [ read ] ; print read ;", "exit: 0 1"},
		{"print ( float ( read ) / float ( read ) ) ;", "exit: 0f401aaaaaaaaaaaab"},
	})
}

// TestKidsInOrder: both Kids of an ExBin, of an ExIndex, all of a call.
func TestKidsInOrder(t *testing.T) {
	wantRuns(t, orderHeads, nil, [][2]string{
		{"print ( say ( 1 ) + say ( 2 ) ) ;", "exit: 1 2 3"},
		{"print ( say ( 1 ) < say ( 2 ) ) ;", "exit: 1 2 1"},
		{"print ( say ( 0 ) * say ( 2 ) ) ;", "exit: 0 2 0"},
		{"print ( sayf ( 1 ) / sayf ( 2 ) ) ;", "exit: 1 2 0f3fe0000000000000"},
		{"print ( sayp ( 1 , nil P ) == sayp ( 2 , nil P ) ) ;", "exit: 1 2 1"},
		{"print sayl ( 1 , make [ ] int ( 5 ) ) [ say ( 2 ) ] ;", "exit: 1 2 0"},
		{"print four ( say ( 1 ) , say ( 2 ) , say ( 3 ) , say ( 4 ) ) ;", "exit: 1 2 3 4 1 2 3 4 1234"},
		{"print four ( say ( 1 ) , four ( 1 , 2 , 3 , say ( 4 ) ) , 0 , say ( 3 ) ) ;", "exit: 1 4 1 2 3 4 3 1 1234 0 3 124403"},
		// The first trap counts; both Kids come ahead of what is asked of them.
		{"print ( ( 1 / 0 ) + nil P . a ) ;", "trap zero:"},
		{"print ( nil P . a + ( 1 / 0 ) ) ;", "trap nil:"},
		{"print ( say ( 1 ) / 0 ) ;", "trap zero: 1"},
		{"print ( ( say ( 1 ) / 0 ) + say ( 2 ) ) ;", "trap zero: 1"},
		{"print ( say ( 1 ) + ( say ( 2 ) / 0 ) ) ;", "trap zero: 1 2"},
		{"print make [ ] int ( 0 ) [ say ( 7 ) ] ;", "trap index: 7"},
		{"print new P . l [ say ( 7 ) ] ;", "trap index: 7"},
		{"print new P . l [ ( 1 / 0 ) ] ;", "trap zero:"},
		{"print ( say ( 5 ) % say ( 0 ) ) ;", "trap zero: 5 0"},
		{"print four ( say ( 1 ) , nil P . a , say ( 3 ) , say ( 4 ) ) ;", "trap nil: 1"},
		// What is put out comes behind what its Kid puts out, and a trap there is put out nowhere.
		{"print say ( 8 ) ; print nil P . a ; print 3 ;", "trap nil: 8 8"},
		{"panic say ( 6 ) ;", "panic 6: 6"},
		{"panic ( 1 / 0 ) ;", "trap zero:"},
	})
}

// TestOneVariableBothSides: the right side sees what was there ahead.
func TestOneVariableBothSides(t *testing.T) {
	heads := orderHeads + " func bump ( p * P ) int { p . a = ( p . a + 1 ) ; return p . a ; }"
	wantRuns(t, heads, nil, [][2]string{
		{"var x int ; x = 3 ; x = ( x * x ) ; x = ( x - 1 ) ; print x ;", "exit: 8"},
		{"var p * P ; p = new P ; p . a = ( bump ( p ) + ( bump ( p ) * 10 ) ) ; print p . a ;", "exit: 21"},
		{"var p * P ; p = new P ; print ( p . a + bump ( p ) ) ; print ( bump ( p ) + p . a ) ;", "exit: 1 4"},
		{"var p * P ; p = new P ; p . n = p ; p . n . n . a = 3 ; print p . a ; p = p . n ; print p . a ;", "exit: 3 3"},
		{"var l [ ] int ; l = make [ ] int ( 3 ) ; l [ 0 ] = 2 ; l [ l [ 0 ] ] = l [ 0 ] ; l [ l [ 2 ] ] = 7 ; print l [ 0 ] ; print l [ 1 ] ; print l [ 2 ] ;", "exit: 2 0 7"},
	})
}
