package tests

import "testing"

// TestLowerOfDeclarations: each is a zero of its own.
func TestLowerOfDeclarations(t *testing.T) {
	wantOneBlock(t, lowerHeads, [][2]string{
		{"var a int ;", "0:int = int 0; return"},
		{"var a float ;", "0:float = float 0; return"},
		{"var a * Q ;", "0:*1 = nil; return"},
		{"var a [ ] int ;", "0:[]int = nil; return"},
		{"var a [ ] float ;", "0:[]float = nil; return"},
		{"var a [ ] * Q ;", "0:[]*1 = nil; return"},
		{"var a int ; var b int ; var c float ; var d * P ; var e * P ;", "0:int = int 0; 1:int = int 0; 2:float = float 0; 3:*0 = nil; 4:*0 = nil; return"},
		{"var a int ; a = 4 ; var b int ; print a ; print b ;", "0:int = int 0; 1:int = int 4; 2:int = int 0; 3 = print 1; 4 = print 2; return"},
	})
}

// TestLowerOfSets: the Kids of the left side, then the right side, then the check of the left side.
func TestLowerOfSets(t *testing.T) {
	wantOneBlock(t, lowerHeads, [][2]string{
		{"new P . a = 3 ;", "0:*0 = new 0; 1:int = int 3; 2 = nilcheck 0; 3 = store 0 0 1; return"},
		{"nil P . f = float ( ( 1 / 0 ) ) ;", "0:*0 = nil; 1:int = int 1; 2:int = int 0; 3 = zerocheck 2; 4:int = div 1 2; 5:float = tofloat 4; 6 = nilcheck 0; 7 = store 1 0 5; return"},
		{"new P . n . n = nil P ;", "0:*0 = new 0; 1 = nilcheck 0; 2:*0 = load 2 0; 3:*0 = nil; 4 = nilcheck 2; 5 = store 2 2 3; return"},
		{"var p * P ; p = new P ; p . n = p ; p . l = make [ ] int ( 1 ) ;", "0:*0 = nil; 1:*0 = new 0; 2 = nilcheck 1; 3 = store 2 1 1; 4:int = int 1; 5 = makecheck 4; 6:[]int = make 4; 7 = nilcheck 1; 8 = store 3 1 6; return"},
		{"make [ ] int ( 2 ) [ read ] = read ;", "0:int = int 2; 1 = makecheck 0; 2:[]int = make 0; 3:int = read; 4:int = read; 5 = indexcheck 2 3; 6 = put 2 3 4; return"},
		{"var l [ ] float ; l [ one ( 1 ) ] = float ( one ( 2 ) ) ;", "0:[]float = nil; 1:int = int 1; 2:int = call 2 1; 3:int = int 2; 4:int = call 2 3; 5:float = tofloat 4; 6 = indexcheck 0 2; 7 = put 0 2 5; return"},
		{"new Q . q [ 0 ] = new Q ;", "0:*1 = new 1; 1 = nilcheck 0; 2:[]*1 = load 2 0; 3:int = int 0; 4:*1 = new 1; 5 = indexcheck 2 3; 6 = put 2 3 4; return"},
		{"new Q . p . l [ 1 ] = new P . l [ 2 ] ;", "0:*1 = new 1; 1 = nilcheck 0; 2:*0 = load 0 0; 3 = nilcheck 2; 4:[]int = load 3 2; 5:int = int 1; 6:*0 = new 0; 7 = nilcheck 6; 8:[]int = load 3 6; 9:int = int 2; 10 = indexcheck 8 9; 11:int = get 8 9; 12 = indexcheck 4 5; 13 = put 4 5 11; return"},
		{"var l [ ] int ; l [ l [ 0 ] ] = l [ 1 ] ;", "0:[]int = nil; 1:int = int 0; 2 = indexcheck 0 1; 3:int = get 0 1; 4:int = int 1; 5 = indexcheck 0 4; 6:int = get 0 4; 7 = indexcheck 0 3; 8 = put 0 3 6; return"},
		// Of a variable there is no value of its own, and no Kid.
		{"var x int ; x = one ( 3 ) ;", "0:int = int 0; 1:int = int 3; 2:int = call 2 1; return"},
		{"var p * P ; p = p . n ; p . n = p ;", "0:*0 = nil; 1 = nilcheck 0; 2:*0 = load 2 0; 3 = nilcheck 2; 4 = store 2 2 2; return"},
		{"var l [ ] int ; var m [ ] int ; l = m ; l [ 0 ] = 1 ;", "0:[]int = nil; 1:[]int = nil; 2:int = int 0; 3:int = int 1; 4 = indexcheck 1 2; 5 = put 1 2 3; return"},
	})
}

// TestTrapsOfSets: which trap comes first hangs on where the check stands.
func TestTrapsOfSets(t *testing.T) {
	for _, x := range [][2]string{
		{"nil P . a = ( 1 / 0 ) ;", "trap zero:"},
		{"nil P . n . a = ( 1 / 0 ) ;", "trap nil:"},
		{"nil P . a = one ( 1 ) ;", "trap nil:"},
		{"make [ ] int ( 1 ) [ 1 ] = ( 1 % 0 ) ;", "trap zero:"},
		{"make [ ] int ( -1 ) [ 1 ] = ( 1 % 0 ) ;", "trap make:"},
		{"make [ ] int ( 1 ) [ ( 1 / 0 ) ] = make [ ] int ( 101 ) [ 0 ] ;", "trap zero:"},
		{"make [ ] int ( 1 ) [ 5 ] = make [ ] int ( 101 ) [ 0 ] ;", "trap make:"},
		{"make [ ] int ( 1 ) [ 5 ] = 1 ;", "trap index:"},
		{"var l [ ] int ; l [ 0 ] = nil P . a ;", "trap nil:"},
		{"var l [ ] int ; print 4 ; l [ 0 ] = 1 ; print 5 ;", "trap index: 4"},
	} {
		u := loweredText(t, mainText(lowerHeads, x[0]))
		if got := plainText(runWhole(t, u, nil)); got != x[1] {
			t.Errorf("%s: %s, want %s", x[0], got, x[1])
		}
	}
}

func TestLowerOfPrintsAndDo(t *testing.T) {
	wantOneBlock(t, lowerHeads, [][2]string{
		{"print 1 ; print 0f0000000000000000 ; print 2 ;", "0:int = int 1; 1 = print 0; 2:float = float 0; 3 = fprint 2; 4:int = int 2; 5 = print 4; return"},
		{"print ( 0f0000000000000000 < 0f0000000000000000 ) ;", "0:float = float 0; 1:float = float 0; 2:int = fless 0 1; 3 = print 2; return"},
		{"do none ( ) ; do one ( 1 ) ; do none ( ) ;", "0 = call 0; 1:int = int 1; 2:int = call 2 1; 3 = call 0; return"},
	})
}

// TestLowerOfReturnsAndPanics: what ends a block ends it as the document says; a block that is open returns.
func TestLowerOfReturnsAndPanics(t *testing.T) {
	wantOneBlock(t, lowerHeads, [][2]string{
		{"return ;", "return"},
		{"print 1 ; return ;", "0:int = int 1; 1 = print 0; return"},
		{"panic 3 ;", "0:int = int 3; panic 0"},
		{"panic ( 1 / read ) ;", "0:int = int 1; 1:int = read; 2 = zerocheck 1; 3:int = div 0 1; panic 3"},
		{"var x int ; panic x ;", "0:int = int 0; panic 0"},
		{"print 1 ; panic read ;", "0:int = int 1; 1 = print 0; 2:int = read; panic 2"},
	})
	wantFirst(t, "func f ( ) int { return ( 1 + 2 ) ; } func main ( ) { do f ( ) ; }", "b0; 0:int = int 1; 1:int = int 2; 2:int = add 0 1; return 2")
	wantFirst(t, "func f ( a float , b float ) float { return b ; } func main ( ) { }", "b0 0:float 1:float; return 1")
	wantFirst(t, "func f ( ) [ ] int { var l [ ] int ; return l ; } func main ( ) { do f ( ) ; }", "b0; 0:[]int = nil; return 0")
	wantFirst(t, "func f ( a int ) float { panic a ; } func main ( ) { do f ( 3 ) ; }", "b0 0:int; panic 0")
	wantFirst(t, "func f ( a int ) { } func main ( ) { do f ( 3 ) ; }", "b0 0:int; return")
	wantFirst(t, "func f ( a int ) int { if a { return 1 ; } else { panic 2 ; } } func main ( ) { print f ( read ) ; }",
		"b0 0:int; if 0 b1 b2", "b1; 1:int = int 1; return 1", "b2; 2:int = int 2; panic 2")
	// What stands behind a part that ends only one of both sides.
	wantBlocks(t, "", "if read { return ; } else { } print 1 ; panic 2 ;",
		"b0; 0:int = read; if 0 b1 b2", "b1; return", "b2; jump b3", "b3; 1:int = int 1; 2 = print 1; 3:int = int 2; panic 3")
	wantBlocks(t, "", "for read { panic 1 ; } print 2 ; return ;",
		"b0; jump b1", "b1; 0:int = read; if 0 b2 b3", "b2; 1:int = int 1; panic 1", "b3; 2:int = int 2; 3 = print 2; return")
}
