package tests

import "testing"

func TestBlocksOfLoops(t *testing.T) {
	for _, x := range []struct {
		stmts string
		want  []string
	}{
		{"for 0 { }", []string{"b0; jump b1", "b1; 0:int = int 0; if 0 b2 b3", "b2; jump b1", "b3; return"}},
		{"for read { print 1 ; } print 2 ;", []string{"b0; jump b1", "b1; 0:int = read; if 0 b2 b3", "b2; 1:int = int 1; 2 = print 1; jump b1", "b3; 3:int = int 2; 4 = print 3; return"}},
		// Body ends by itself: no edge leads back.
		{"for read { return ; }", []string{"b0; jump b1", "b1; 0:int = read; if 0 b2 b3", "b2; return", "b3; return"}},
		{"for read { panic 1 ; } panic 2 ;", []string{"b0; jump b1", "b1; 0:int = read; if 0 b2 b3", "b2; 1:int = int 1; panic 1", "b3; 2:int = int 2; panic 2"}},
		{"for read { if read { return ; } else { panic 1 ; } }", []string{"b0; jump b1", "b1; 0:int = read; if 0 b2 b3", "b2; 1:int = read; if 1 b4 b5", "b3; return", "b4; return", "b5; 2:int = int 1; panic 2"}},
		// The Kid is made in the first block, each time, with all its checks.
		{"for ( 6 / read ) { }", []string{"b0; jump b1", "b1; 0:int = int 6; 1:int = read; 2 = zerocheck 1; 3:int = div 0 1; if 3 b2 b3", "b2; jump b1", "b3; return"}},
		{"for one ( read ) { }", []string{"b0; jump b1", "b1; 0:int = read; 1:int = call 2 0; if 1 b2 b3", "b2; jump b1", "b3; return"}},
		{"for new P . a { }", []string{"b0; jump b1", "b1; 0:*0 = new 0; 1 = nilcheck 0; 2:int = load 0 0; if 2 b2 b3", "b2; jump b1", "b3; return"}},
		{"for make [ ] int ( 2 ) [ read ] { }", []string{"b0; jump b1", "b1; 0:int = int 2; 1 = makecheck 0; 2:[]int = make 0; 3:int = read; 4 = indexcheck 2 3; 5:int = get 2 3; if 5 b2 b3", "b2; jump b1", "b3; return"}},
		{"for nil P . n . a { print 1 ; } print 2 ;", []string{"b0; jump b1", "b1; 0:*0 = nil; 1 = nilcheck 0; 2:*0 = load 2 0; 3 = nilcheck 2; 4:int = load 0 2; if 4 b2 b3", "b2; 5:int = int 1; 6 = print 5; jump b1", "b3; 7:int = int 2; 8 = print 7; return"}},
		// Two, one behind the other.
		{"for read { } for read { }", []string{"b0; jump b1", "b1; 0:int = read; if 0 b2 b3", "b2; jump b1", "b3; jump b4", "b4; 1:int = read; if 1 b5 b6", "b5; jump b4", "b6; return"}},
		{"for read { return ; } for read { }", []string{"b0; jump b1", "b1; 0:int = read; if 0 b2 b3", "b2; return", "b3; jump b4", "b4; 1:int = read; if 1 b5 b6", "b5; jump b4", "b6; return"}},
		// Without an end.
		{"for 1 { }", []string{"b0; jump b1", "b1; 0:int = int 1; if 0 b2 b3", "b2; jump b1", "b3; return"}},
	} {
		wantBlocks(t, lowerHeads, x.stmts, x.want...)
	}
}

// TestParametersOfLoops: one for each variable that is declared ahead and that Body sets.
func TestParametersOfLoops(t *testing.T) {
	for _, x := range []struct {
		stmts string
		want  []string
	}{
		{"var i int ; for ( i < 3 ) { i = ( i + 1 ) ; } print i ;", []string{
			"b0; 0:int = int 0; jump b1 0", "b1 1:int; 2:int = int 3; 3:int = less 1 2; if 3 b2 b3", "b2; 4:int = int 1; 5:int = add 1 4; jump b1 5", "b3; 6 = print 1; return"}},
		// None is set, though they are looked at.
		{"var i int ; for i { print i ; } print i ;", []string{
			"b0; 0:int = int 0; jump b1", "b1; if 0 b2 b3", "b2; 1 = print 0; jump b1", "b3; 2 = print 0; return"}},
		// A parameter, though the Kid does not look at it; and one that is set to itself.
		{"var i int ; for read { i = 7 ; } print i ;", []string{
			"b0; 0:int = int 0; jump b1 0", "b1 1:int; 2:int = read; if 2 b2 b3", "b2; 3:int = int 7; jump b1 3", "b3; 4 = print 1; return"}},
		{"var i int ; for read { i = i ; } print i ;", []string{
			"b0; 0:int = int 0; jump b1 0", "b1 1:int; 2:int = read; if 2 b2 b3", "b2; jump b1 1", "b3; 3 = print 1; return"}},
		// Several: ascending, whatever the order in which they are set; those between stay.
		{"var a int ; var b float ; var c int ; var d * P ; for read { d = new P ; c = ( a + c ) ; a = 2 ; } print a ; print b ; print c ; print ( d == nil P ) ;", []string{
			"b0; 0:int = int 0; 1:float = float 0; 2:int = int 0; 3:*0 = nil; jump b1 0 2 3", "b1 4:int 5:int 6:*0; 7:int = read; if 7 b2 b3",
			"b2; 8:*0 = new 0; 9:int = add 4 5; 10:int = int 2; jump b1 10 9 8", "b3; 11 = print 4; 12 = fprint 1; 13 = print 5; 14:*0 = nil; 15:int = same 6 14; 16 = print 15; return"}},
		// Values that change their places each time.
		{"var a int ; var b int ; b = 1 ; for read { var c int ; c = a ; a = b ; b = c ; } print a ;", []string{
			"b0; 0:int = int 0; 1:int = int 0; 2:int = int 1; jump b1 0 2", "b1 3:int 4:int; 5:int = read; if 5 b2 b3", "b2; 6:int = int 0; jump b1 4 3", "b3; 7 = print 3; return"}},
		// The value ahead of the loop may be a variable's, twice.
		{"var a int ; var b int ; a = b ; for read { b = 1 ; a = 2 ; } print a ; print b ;", []string{
			"b0; 0:int = int 0; 1:int = int 0; jump b1 1 1", "b1 2:int 3:int; 4:int = read; if 4 b2 b3", "b2; 5:int = int 1; 6:int = int 2; jump b1 6 5", "b3; 7 = print 2; 8 = print 3; return"}},
		// What is declared in Body has none, and is zero each time.
		{"for read { var x int ; x = 1 ; print x ; } var y int ; print y ;", []string{
			"b0; jump b1", "b1; 0:int = read; if 0 b2 b3", "b2; 1:int = int 0; 2:int = int 1; 3 = print 2; jump b1", "b3; 4:int = int 0; 5 = print 4; return"}},
		{"var s int ; for read { var x int ; print x ; x = s ; s = ( x + 1 ) ; }", []string{
			"b0; 0:int = int 0; jump b1 0", "b1 1:int; 2:int = read; if 2 b2 b3", "b2; 3:int = int 0; 4 = print 3; 5:int = int 1; 6:int = add 1 5; jump b1 6", "b3; return"}},
		// A Body that ends sets it, and so it has one; only one edge leads there.
		{"var x int ; for read { x = 1 ; return ; } print x ;", []string{
			"b0; 0:int = int 0; jump b1 0", "b1 1:int; 2:int = read; if 2 b2 b3", "b2; 3:int = int 1; return", "b3; 4 = print 1; return"}},
		{"var x int ; for read { x = 1 ; panic x ; } panic x ;", []string{
			"b0; 0:int = int 0; jump b1 0", "b1 1:int; 2:int = read; if 2 b2 b3", "b2; 3:int = int 1; panic 3", "b3; panic 1"}},
		// A field and a place are no variable.
		{"var p * P ; var l [ ] int ; for read { p . a = 1 ; l [ 0 ] = 2 ; }", []string{
			"b0; 0:*0 = nil; 1:[]int = nil; jump b1", "b1; 2:int = read; if 2 b2 b3", "b2; 3:int = int 1; 4 = nilcheck 0; 5 = store 0 0 3; 6:int = int 0; 7:int = int 2; 8 = indexcheck 1 6; 9 = put 1 6 7; jump b1", "b3; return"}},
		// The same variable in two loops; and one that is declared between.
		{"var x int ; for read { x = 1 ; } var y int ; for x { x = y ; y = 2 ; } print y ;", []string{
			"b0; 0:int = int 0; jump b1 0", "b1 1:int; 2:int = read; if 2 b2 b3", "b2; 3:int = int 1; jump b1 3", "b3; 4:int = int 0; jump b4 1 4",
			"b4 5:int 6:int; if 5 b5 b6", "b5; 7:int = int 2; jump b4 6 7", "b6; 8 = print 6; return"}},
	} {
		wantBlocks(t, "type P struct { a int ; }", x.stmts, x.want...)
	}
}

// TestLoopsWithinLoops: the outer one has a parameter for what only the inner one sets.
func TestLoopsWithinLoops(t *testing.T) {
	for _, x := range []struct {
		stmts string
		want  []string
	}{
		{"var x int ; for read { for read { x = 1 ; } print x ; } print x ;", []string{
			"b0; 0:int = int 0; jump b1 0", "b1 1:int; 2:int = read; if 2 b2 b3", "b2; jump b4 1", "b3; 7 = print 1; return",
			"b4 3:int; 4:int = read; if 4 b5 b6", "b5; 5:int = int 1; jump b4 5", "b6; 6 = print 3; jump b1 3"}},
		// The inner counter is declared in the outer Body: only the inner one has it.
		{"var i int ; var s int ; for ( i < 3 ) { var j int ; for ( j < i ) { s = ( s + j ) ; j = ( j + 1 ) ; } i = ( i + 1 ) ; } print s ;", []string{
			"b0; 0:int = int 0; 1:int = int 0; jump b1 0 1",
			"b1 2:int 3:int; 4:int = int 3; 5:int = less 2 4; if 5 b2 b3",
			"b2; 6:int = int 0; jump b4 3 6",
			"b3; 15 = print 3; return",
			"b4 7:int 8:int; 9:int = less 8 2; if 9 b5 b6",
			"b5; 10:int = add 7 8; 11:int = int 1; 12:int = add 8 11; jump b4 10 12",
			"b6; 13:int = int 1; 14:int = add 2 13; jump b1 14 7"}},
		// Deep within: three loops, and each has the parameter.
		{"var x int ; for read { for read { for read { x = read ; } } } print x ;", []string{
			"b0; 0:int = int 0; jump b1 0", "b1 1:int; 2:int = read; if 2 b2 b3", "b2; jump b4 1", "b3; 8 = print 1; return",
			"b4 3:int; 4:int = read; if 4 b5 b6", "b5; jump b7 3", "b6; jump b1 3", "b7 5:int; 6:int = read; if 6 b8 b9", "b8; 7:int = read; jump b7 7", "b9; jump b4 5"}},
		// The inner Body ends by itself.
		{"var x int ; for read { for read { x = 1 ; return ; } } print x ;", []string{
			"b0; 0:int = int 0; jump b1 0", "b1 1:int; 2:int = read; if 2 b2 b3", "b2; jump b4 1", "b3; 6 = print 1; return", "b4 3:int; 4:int = read; if 4 b5 b6", "b5; 5:int = int 1; return", "b6; jump b1 3"}},
	} {
		wantBlocks(t, "", x.stmts, x.want...)
	}
}

func TestIfsInLoopsAndLoopsInIfs(t *testing.T) {
	for _, x := range []struct {
		stmts string
		want  []string
	}{
		{"var x int ; for read { if read { x = 1 ; } else { } print x ; } print x ;", []string{
			"b0; 0:int = int 0; jump b1 0", "b1 1:int; 2:int = read; if 2 b2 b3", "b2; 3:int = read; if 3 b4 b5", "b3; 7 = print 1; return", "b4; 4:int = int 1; jump b6 4", "b5; jump b6 1", "b6 5:int; 6 = print 5; jump b1 5"}},
		// Set only in a side that ends: both have the parameter all the same.
		{"var x int ; for read { if read { x = 1 ; return ; } else { } print x ; }", []string{
			"b0; 0:int = int 0; jump b1 0", "b1 1:int; 2:int = read; if 2 b2 b3", "b2; 3:int = read; if 3 b4 b5", "b3; return", "b4; 4:int = int 1; return", "b5; jump b6 1", "b6 5:int; 6 = print 5; jump b1 5"}},
		{"var x int ; for read { if read { return ; } else { x = 1 ; panic x ; } }", []string{
			"b0; 0:int = int 0; jump b1 0", "b1 1:int; 2:int = read; if 2 b2 b3", "b2; 3:int = read; if 3 b4 b5", "b3; return", "b4; return", "b5; 4:int = int 1; panic 4"}},
		{"var x int ; if read { for read { x = 1 ; } } else { print x ; } print x ;", []string{
			"b0; 0:int = int 0; 1:int = read; if 1 b1 b2", "b1; jump b3 0", "b2; 5 = print 0; jump b6 0", "b3 2:int; 3:int = read; if 3 b4 b5", "b4; 4:int = int 1; jump b3 4", "b5; jump b6 2", "b6 6:int; 7 = print 6; return"}},
		{"var x int ; if read { print x ; } else { for read { x = 1 ; } } print x ;", []string{
			"b0; 0:int = int 0; 1:int = read; if 1 b1 b2", "b1; 2 = print 0; jump b6 0", "b2; jump b3 0", "b3 3:int; 4:int = read; if 4 b4 b5", "b4; 5:int = int 1; jump b3 5", "b5; jump b6 3", "b6 6:int; 7 = print 6; return"}},
		// Two variables, of which the loop sets one and the other side the other.
		{"var x int ; var y float ; if read { for read { y = 0f3ff0000000000000 ; } } else { x = 1 ; } print x ; print y ;", []string{
			"b0; 0:int = int 0; 1:float = float 0; 2:int = read; if 2 b1 b2", "b1; jump b3 1", "b2; 6:int = int 1; jump b6 6 1", "b3 3:float; 4:int = read; if 4 b4 b5", "b4; 5:float = float 1; jump b3 5", "b5; jump b6 0 3",
			"b6 7:int 8:float; 9 = print 7; 10 = fprint 8; return"}},
		// A loop whose Body ends, in an if whose other side does.
		{"if read { for read { return ; } } else { return ; }", []string{
			"b0; 0:int = read; if 0 b1 b2", "b1; jump b3", "b2; return", "b3; 1:int = read; if 1 b4 b5", "b4; return", "b5; jump b6", "b6; return"}},
	} {
		wantBlocks(t, "", x.stmts, x.want...)
	}
}

// TestParamsOfFunctionsThatLoopsSet are variables like others, with the least numbers.
func TestParamsOfFunctionsThatLoopsSet(t *testing.T) {
	wantFirst(t, "func f ( n int , x float , m int ) float { var r float ; for n { r = ( r + x ) ; n = ( n - m ) ; } return r ; } func main ( ) { print f ( 3 , 0f4000000000000000 , 1 ) ; }",
		"b0 0:int 1:float 2:int; 3:float = float 0; jump b1 0 3",
		"b1 4:int 5:float; if 4 b2 b3",
		"b2; 6:float = fadd 5 1; 7:int = sub 4 2; jump b1 7 6",
		"b3; return 5")
	wantFirst(t, "func f ( a int , b int ) int { for a { for b { a = 0 ; b = 0 ; } } return ( a + b ) ; } func main ( ) { }",
		"b0 0:int 1:int; jump b1 0 1", "b1 2:int 3:int; if 2 b2 b3", "b2; jump b4 2 3", "b3; 8:int = add 2 3; return 8", "b4 4:int 5:int; if 5 b5 b6", "b5; 6:int = int 0; 7:int = int 0; jump b4 6 7", "b6; jump b1 4 5")
}
