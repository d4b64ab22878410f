package tests

import "testing"

// TestBlocksOfIfs: their numbers, and whether there is one behind both.
func TestBlocksOfIfs(t *testing.T) {
	for _, x := range []struct {
		stmts string
		want  []string
	}{
		{"if 1 { } else { }", []string{"b0; 0:int = int 1; if 0 b1 b2", "b1; jump b3", "b2; jump b3", "b3; return"}},
		{"if 1 { print 2 ; } else { }", []string{"b0; 0:int = int 1; if 0 b1 b2", "b1; 1:int = int 2; 2 = print 1; jump b3", "b2; jump b3", "b3; return"}},
		{"if 1 { } else { print 2 ; }", []string{"b0; 0:int = int 1; if 0 b1 b2", "b1; jump b3", "b2; 1:int = int 2; 2 = print 1; jump b3", "b3; return"}},
		{"if 1 { print 2 ; } else { print 3 ; } print 4 ;", []string{"b0; 0:int = int 1; if 0 b1 b2", "b1; 1:int = int 2; 2 = print 1; jump b3", "b2; 3:int = int 3; 4 = print 3; jump b3", "b3; 5:int = int 4; 6 = print 5; return"}},
		{"if 1 { return ; } else { }", []string{"b0; 0:int = int 1; if 0 b1 b2", "b1; return", "b2; jump b3", "b3; return"}},
		{"if 1 { } else { return ; } return ;", []string{"b0; 0:int = int 1; if 0 b1 b2", "b1; jump b3", "b2; return", "b3; return"}},
		{"if 1 { } else { panic 2 ; } print 3 ;", []string{"b0; 0:int = int 1; if 0 b1 b2", "b1; jump b3", "b2; 1:int = int 2; panic 1", "b3; 2:int = int 3; 3 = print 2; return"}},
		{"if 1 { return ; } else { panic 2 ; }", []string{"b0; 0:int = int 1; if 0 b1 b2", "b1; return", "b2; 1:int = int 2; panic 1"}},
		{"if 1 { panic 2 ; } else { return ; }", []string{"b0; 0:int = int 1; if 0 b1 b2", "b1; 1:int = int 2; panic 1", "b2; return"}},
		// The Kid ahead of all, with its checks; it may be a variable's value.
		{"if ( 1 / read ) { } else { }", []string{"b0; 0:int = int 1; 1:int = read; 2 = zerocheck 1; 3:int = div 0 1; if 3 b1 b2", "b1; jump b3", "b2; jump b3", "b3; return"}},
		{"var x int ; if x { } else { }", []string{"b0; 0:int = int 0; if 0 b1 b2", "b1; jump b3", "b2; jump b3", "b3; return"}},
		// Two, one behind the other.
		{"if 1 { } else { } if 2 { } else { }", []string{"b0; 0:int = int 1; if 0 b1 b2", "b1; jump b3", "b2; jump b3", "b3; 1:int = int 2; if 1 b4 b5", "b4; jump b6", "b5; jump b6", "b6; return"}},
	} {
		wantBlocks(t, "", x.stmts, x.want...)
	}
}

// TestParametersBehindIfs: one for each variable that is set on one side or the other.
func TestParametersBehindIfs(t *testing.T) {
	for _, x := range []struct {
		stmts string
		want  []string
	}{
		// None is set: none, though variables are there and are used.
		{"var x int ; if read { print x ; } else { } print x ;", []string{
			"b0; 0:int = int 0; 1:int = read; if 1 b1 b2", "b1; 2 = print 0; jump b3", "b2; jump b3", "b3; 3 = print 0; return"}},
		// In Body alone, in Else alone, in both.
		{"var x int ; if read { x = 5 ; } else { } print x ;", []string{
			"b0; 0:int = int 0; 1:int = read; if 1 b1 b2", "b1; 2:int = int 5; jump b3 2", "b2; jump b3 0", "b3 3:int; 4 = print 3; return"}},
		{"var x int ; if read { } else { x = 5 ; } print x ;", []string{
			"b0; 0:int = int 0; 1:int = read; if 1 b1 b2", "b1; jump b3 0", "b2; 2:int = int 5; jump b3 2", "b3 3:int; 4 = print 3; return"}},
		{"var x int ; if read { x = 5 ; } else { x = 6 ; } print x ;", []string{
			"b0; 0:int = int 0; 1:int = read; if 1 b1 b2", "b1; 2:int = int 5; jump b3 2", "b2; 3:int = int 6; jump b3 3", "b3 4:int; 5 = print 4; return"}},
		// Else begins with what was there ahead, not with what Body set.
		{"var x int ; x = 3 ; if read { x = ( x + x ) ; } else { x = ( x * x ) ; } x = ( x - x ) ;", []string{
			"b0; 0:int = int 0; 1:int = int 3; 2:int = read; if 2 b1 b2", "b1; 3:int = add 1 1; jump b3 3", "b2; 4:int = mul 1 1; jump b3 4", "b3 5:int; 6:int = sub 5 5; return"}},
		// The Kid has what is there ahead.
		{"var x int ; if ( x + 1 ) { x = 2 ; } else { }", []string{
			"b0; 0:int = int 0; 1:int = int 1; 2:int = add 0 1; if 2 b1 b2", "b1; 3:int = int 2; jump b3 3", "b2; jump b3 0", "b3 4:int; return"}},
		// Several: ascending, whatever the order in which they are set; each once, with the last value.
		{"var a int ; var b float ; var c * P ; if read { c = new P ; a = 1 ; } else { b = 0f3ff0000000000000 ; a = 2 ; a = 3 ; } print a ; print b ; print c . a ;", []string{
			"b0; 0:int = int 0; 1:float = float 0; 2:*0 = nil; 3:int = read; if 3 b1 b2", "b1; 4:*0 = new 0; 5:int = int 1; jump b3 5 1 4", "b2; 6:float = float 1; 7:int = int 2; 8:int = int 3; jump b3 8 6 2",
			"b3 9:int 10:float 11:*0; 12 = print 9; 13 = fprint 10; 14 = nilcheck 11; 15:int = load 0 11; 16 = print 15; return"}},
		// Those between that are not set stay.
		{"var a int ; var b int ; var c int ; var d int ; if read { d = 1 ; } else { b = 2 ; } print a ; print b ; print c ; print d ;", []string{
			"b0; 0:int = int 0; 1:int = int 0; 2:int = int 0; 3:int = int 0; 4:int = read; if 4 b1 b2", "b1; 5:int = int 1; jump b3 1 5", "b2; 6:int = int 2; jump b3 6 3",
			"b3 7:int 8:int; 9 = print 0; 10 = print 7; 11 = print 2; 12 = print 8; return"}},
		// One value twice on an edge, and one that is set to another's, or to itself.
		{"var a int ; var b int ; if read { a = b ; } else { b = a ; } print a ; print b ;", []string{
			"b0; 0:int = int 0; 1:int = int 0; 2:int = read; if 2 b1 b2", "b1; jump b3 1 1", "b2; jump b3 0 0", "b3 3:int 4:int; 5 = print 3; 6 = print 4; return"}},
		{"var a int ; if read { a = a ; } else { } print a ;", []string{
			"b0; 0:int = int 0; 1:int = read; if 1 b1 b2", "b1; jump b3 0", "b2; jump b3 0", "b3 2:int; 3 = print 2; return"}},
		{"var a int ; var b int ; if read { var c int ; c = a ; a = b ; b = c ; } else { } print a ;", []string{
			"b0; 0:int = int 0; 1:int = int 0; 2:int = read; if 2 b1 b2", "b1; 3:int = int 0; jump b3 1 0", "b2; jump b3 0 1", "b3 4:int 5:int; 6 = print 4; return"}},
		// A field and a place are no variable.
		{"var p * P ; var l [ ] int ; if read { p . a = 1 ; } else { l [ 0 ] = 2 ; }", []string{
			"b0; 0:*0 = nil; 1:[]int = nil; 2:int = read; if 2 b1 b2", "b1; 3:int = int 1; 4 = nilcheck 0; 5 = store 0 0 3; jump b3", "b2; 6:int = int 0; 7:int = int 2; 8 = indexcheck 1 6; 9 = put 1 6 7; jump b3", "b3; return"}},
		{"var l [ ] int ; if read { l = make [ ] int ( 1 ) ; l [ 0 ] = 2 ; } else { } print len ( l ) ;", []string{
			"b0; 0:[]int = nil; 1:int = read; if 1 b1 b2", "b1; 2:int = int 1; 3 = makecheck 2; 4:[]int = make 2; 5:int = int 0; 6:int = int 2; 7 = indexcheck 4 5; 8 = put 4 5 6; jump b3 4", "b2; jump b3 0",
			"b3 9:[]int; 10:int = len 9; 11 = print 10; return"}},
	} {
		wantBlocks(t, "type P struct { a int ; }", x.stmts, x.want...)
	}
}

// TestSetsInSidesThatEnd: a StSet counts wherever it stands, in a side that ends by itself, too.
func TestSetsInSidesThatEnd(t *testing.T) {
	for _, x := range []struct {
		stmts string
		want  []string
	}{
		{"var x int ; if read { x = 1 ; return ; } else { } print x ;", []string{
			"b0; 0:int = int 0; 1:int = read; if 1 b1 b2", "b1; 2:int = int 1; return", "b2; jump b3 0", "b3 3:int; 4 = print 3; return"}},
		{"var x int ; if read { } else { x = 1 ; panic x ; } print x ;", []string{
			"b0; 0:int = int 0; 1:int = read; if 1 b1 b2", "b1; jump b3 0", "b2; 2:int = int 1; panic 2", "b3 3:int; 4 = print 3; return"}},
		{"var x int ; var y int ; if read { y = 2 ; } else { x = 1 ; return ; } print x ;", []string{
			"b0; 0:int = int 0; 1:int = int 0; 2:int = read; if 2 b1 b2", "b1; 3:int = int 2; jump b3 0 3", "b2; 4:int = int 1; return", "b3 5:int 6:int; 7 = print 5; return"}},
		// Neither side is open: there is no block, and so no parameter.
		{"var x int ; if read { x = 1 ; return ; } else { x = 2 ; panic x ; }", []string{
			"b0; 0:int = int 0; 1:int = read; if 1 b1 b2", "b1; 2:int = int 1; return", "b2; 3:int = int 2; panic 3"}},
		// Deep within, in a part that ends.
		{"var x int ; if read { if read { x = 1 ; return ; } else { return ; } } else { } print x ;", []string{
			"b0; 0:int = int 0; 1:int = read; if 1 b1 b2", "b1; 2:int = read; if 2 b3 b4", "b2; jump b5 0", "b3; 3:int = int 1; return", "b4; return", "b5 4:int; 5 = print 4; return"}},
	} {
		wantBlocks(t, "", x.stmts, x.want...)
	}
}

// TestDeclaredWithinIfs: what is declared inside gets no parameter, and what is declared behind none either.
func TestDeclaredWithinIfs(t *testing.T) {
	for _, x := range []struct {
		stmts string
		want  []string
	}{
		{"if read { var y int ; y = 1 ; print y ; } else { var z int ; z = 2 ; }", []string{
			"b0; 0:int = read; if 0 b1 b2", "b1; 1:int = int 0; 2:int = int 1; 3 = print 2; jump b3", "b2; 4:int = int 0; 5:int = int 2; jump b3", "b3; return"}},
		// Their numbers lie between that of x and that of w.
		{"var x int ; if read { var y int ; y = 1 ; x = y ; } else { var z int ; z = x ; } var w int ; w = x ; if read { w = 2 ; } else { } print w ;", []string{
			"b0; 0:int = int 0; 1:int = read; if 1 b1 b2", "b1; 2:int = int 0; 3:int = int 1; jump b3 3", "b2; 4:int = int 0; jump b3 0",
			"b3 5:int; 6:int = int 0; 7:int = read; if 7 b4 b5", "b4; 8:int = int 2; jump b6 8", "b5; jump b6 5", "b6 9:int; 10 = print 9; return"}},
		// Declared ahead of the inner one, but not of the outer one.
		{"if read { var y int ; if read { y = 1 ; } else { } print y ; } else { }", []string{
			"b0; 0:int = read; if 0 b1 b2", "b1; 1:int = int 0; 2:int = read; if 2 b3 b4", "b2; jump b6", "b3; 3:int = int 1; jump b5 3", "b4; jump b5 1", "b5 4:int; 5 = print 4; jump b6", "b6; return"}},
		{"if read { } else { var y float ; if read { } else { y = 0f3ff0000000000000 ; } print y ; } var v int ; v = 3 ;", []string{
			"b0; 0:int = read; if 0 b1 b2", "b1; jump b6", "b2; 1:float = float 0; 2:int = read; if 2 b3 b4", "b3; jump b5 1", "b4; 3:float = float 1; jump b5 3", "b5 4:float; 5 = fprint 4; jump b6", "b6; 6:int = int 0; 7:int = int 3; return"}},
	} {
		wantBlocks(t, "", x.stmts, x.want...)
	}
	// One of the same name in another function counts for nothing; there each has its own number.
	wantUnitText(t, "func f ( x int , y int ) { if x { y = x ; } else { var z int ; z = y ; } } func main ( ) { var y int ; var x int ; if x { x = y ; } else { } print x ; }",
		"fn int int", "b0 0:int 1:int; if 0 b1 b2", "b1; jump b3 0", "b2; 2:int = int 0; jump b3 1", "b3 3:int; return",
		"fn", "b0; 0:int = int 0; 1:int = int 0; if 1 b1 b2", "b1; jump b3 0", "b2; jump b3 1", "b3 2:int; 3 = print 2; return",
		"main 1")
}

// TestIfsWithinIfs: the inner blocks take the next numbers, and the values of Else those behind all of Body.
func TestIfsWithinIfs(t *testing.T) {
	for _, x := range []struct {
		stmts string
		want  []string
	}{
		{"var x int ; if read { if read { x = 1 ; } else { } } else { x = 2 ; } print x ;", []string{
			"b0; 0:int = int 0; 1:int = read; if 1 b1 b2", "b1; 2:int = read; if 2 b3 b4", "b2; 5:int = int 2; jump b6 5", "b3; 3:int = int 1; jump b5 3", "b4; jump b5 0", "b5 4:int; jump b6 4", "b6 6:int; 7 = print 6; return"}},
		{"var x int ; if read { x = 2 ; } else { if read { } else { x = 1 ; } } print x ;", []string{
			"b0; 0:int = int 0; 1:int = read; if 1 b1 b2", "b1; 2:int = int 2; jump b6 2", "b2; 3:int = read; if 3 b3 b4", "b3; jump b5 0", "b4; 4:int = int 1; jump b5 4", "b5 5:int; jump b6 5", "b6 6:int; 7 = print 6; return"}},
		// At both sides, unlike variables: each inner one has only its own.
		{"var x int ; var y int ; if read { if read { x = 1 ; } else { } } else { if read { } else { y = 2 ; } } print ( x + y ) ;", []string{
			"b0; 0:int = int 0; 1:int = int 0; 2:int = read; if 2 b1 b2", "b1; 3:int = read; if 3 b3 b4", "b2; 6:int = read; if 6 b6 b7", "b3; 4:int = int 1; jump b5 4", "b4; jump b5 0", "b5 5:int; jump b9 5 1",
			"b6; jump b8 1", "b7; 7:int = int 2; jump b8 7", "b8 8:int; jump b9 0 8", "b9 9:int 10:int; 11:int = add 9 10; 12 = print 11; return"}},
		// The inner one is not open: so its side is not.
		{"var x int ; if read { if read { return ; } else { panic 1 ; } } else { x = 2 ; } print x ;", []string{
			"b0; 0:int = int 0; 1:int = read; if 1 b1 b2", "b1; 2:int = read; if 2 b3 b4", "b2; 4:int = int 2; jump b5 4", "b3; return", "b4; 3:int = int 1; panic 3", "b5 5:int; 6 = print 5; return"}},
		{"if read { if read { return ; } else { return ; } } else { if read { return ; } else { return ; } }", []string{
			"b0; 0:int = read; if 0 b1 b2", "b1; 1:int = read; if 1 b3 b4", "b2; 2:int = read; if 2 b5 b6", "b3; return", "b4; return", "b5; return", "b6; return"}},
		// One of the inner sides is open.
		{"var x int ; if read { if read { return ; } else { x = 1 ; } x = ( x + x ) ; } else { return ; } print x ;", []string{
			"b0; 0:int = int 0; 1:int = read; if 1 b1 b2", "b1; 2:int = read; if 2 b3 b4", "b2; return", "b3; return", "b4; 3:int = int 1; jump b5 3", "b5 4:int; 5:int = add 4 4; jump b6 5", "b6 6:int; 7 = print 6; return"}},
		// Two within one, and one within the inner.
		{"var x int ; if read { if read { if read { x = 1 ; } else { } } else { } } else { } print x ;", []string{
			"b0; 0:int = int 0; 1:int = read; if 1 b1 b2", "b1; 2:int = read; if 2 b3 b4", "b2; jump b9 0", "b3; 3:int = read; if 3 b5 b6", "b4; jump b8 0", "b5; 4:int = int 1; jump b7 4", "b6; jump b7 0", "b7 5:int; jump b8 5", "b8 6:int; jump b9 6", "b9 7:int; 8 = print 7; return"}},
		{"var x int ; if read { if read { x = 1 ; } else { } if read { x = 2 ; } else { } } else { } print x ;", []string{
			"b0; 0:int = int 0; 1:int = read; if 1 b1 b2", "b1; 2:int = read; if 2 b3 b4", "b2; jump b9 0", "b3; 3:int = int 1; jump b5 3", "b4; jump b5 0", "b5 4:int; 5:int = read; if 5 b6 b7", "b6; 6:int = int 2; jump b8 6", "b7; jump b8 4", "b8 7:int; jump b9 7", "b9 8:int; 9 = print 8; return"}},
	} {
		wantBlocks(t, "", x.stmts, x.want...)
	}
}

// TestParamsOfFunctionsThatIfsSet are variables like others, with the least numbers.
func TestParamsOfFunctionsThatIfsSet(t *testing.T) {
	wantFirst(t, "func f ( a int , b float , c int ) int { var d int ; if c { d = 1 ; c = 2 ; a = 3 ; } else { b = float ( a ) ; } print b ; return ( ( a + c ) + d ) ; } func main ( ) { print f ( read , float ( read ) , read ) ; }",
		"b0 0:int 1:float 2:int; 3:int = int 0; if 2 b1 b2",
		"b1; 4:int = int 1; 5:int = int 2; 6:int = int 3; jump b3 6 1 5 4",
		"b2; 7:float = tofloat 0; jump b3 0 7 2 3",
		"b3 8:int 9:float 10:int 11:int; 12 = fprint 9; 13:int = add 8 10; 14:int = add 13 11; return 14")
}
