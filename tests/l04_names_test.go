package tests

import (
	"fmt"
	"testing"

	"loop.example/g00306/impl"
)

func TestMainIsThere(t *testing.T) {
	wantCode(t, impl.TypeWell,
		"func main ( ) { }", "func f ( ) { } func main ( ) { }", "func main ( ) { } func f ( ) { }", "func f ( main int ) { } func main ( ) { var main int ; main = 1 ; }",
		"type A struct { main int ; } func main ( ) { }", "func f ( a int ) int { return a ; } func main ( ) { }",
	)
	wantCode(t, impl.TypeName,
		"", "type A struct { }", "func f ( ) { }", "func mai ( ) { }", "func main1 ( ) { }", "func f ( ) { } func g ( ) { }",
		"func main ( a int ) { }", "func main ( a int , b int , c int , d int ) { }", "type A struct { } func main ( a * A ) { }",
		"func main ( ) int { return 1 ; }", "func main ( ) float { return 0f0000000000000000 ; }", "func main ( ) [ ] int { return make [ ] int ( 1 ) ; }", "type A struct { } func main ( ) * A { return nil A ; }",
		"func main ( a int ) int { return a ; }", "func f ( main int ) { }", "func f ( ) { var main int ; }", "type A struct { main int ; } func f ( ) { do f ( ) ; }",
	)
}

func TestNamesOfFunctions(t *testing.T) {
	wantCode(t, impl.TypeName,
		"func f ( ) { } func f ( ) { } func main ( ) { }", "func f ( ) { } func main ( ) { } func f ( a int ) { }", "func main ( ) { } func main ( ) { }", "func main ( ) { } func main ( a int ) { }", "func main ( a int ) { } func main ( ) { }",
		"func a ( ) { } func b ( ) { } func c ( ) { } func main ( ) { } func d ( ) { } func c ( ) int { return 1 ; }",
	)
	wantCode(t, impl.TypeWell,
		"func f ( ) { } func g ( ) { } func main ( ) { }", "func a ( ) { } func aa ( ) { } func a1 ( ) { } func main ( ) { }",
		// Words of unlike sorts do not get in each other's way.
		"type A struct { f int ; main int ; a int ; } func f ( a * A ) int { return a . a ; } func main ( ) { var f * A ; f . f = f ( f ) ; f . main = f . f ; do main ( ) ; }",
		"func f ( f int ) { var g int ; g = f ; do f ( g ) ; } func g ( g int ) { do g ( g ) ; } func main ( ) { }",
	)
}

func TestNamesOfFields(t *testing.T) {
	wantCode(t, impl.TypeName,
		"type A struct { a int ; a int ; } func main ( ) { }", "type A struct { a int ; a float ; } func main ( ) { }", "type A struct { a int ; b int ; c int ; d int ; a int ; } func main ( ) { }",
		"type A struct { a int ; } type B struct { b int ; c int ; b int ; } func main ( ) { }", "type A struct { b int ; c int ; c int ; } type B struct { } func main ( ) { }",
	)
	wantCode(t, impl.TypeWell,
		"type A struct { a int ; } type B struct { a int ; } func main ( ) { }", "type A struct { a int ; b float ; } type B struct { b int ; a * A ; } func main ( ) { }",
		"type A struct { a int ; aa int ; a1 int ; } func main ( ) { }", "type A struct { main int ; } func main ( ) { }", "type A struct { } type B struct { } func main ( ) { }",
	)
}

func TestNamesOfVariables(t *testing.T) {
	wantCodeInMain(t, impl.TypeName, "",
		"var x int ; var x int ;", "var x int ; var x float ;", "var x int ; var y int ; var x int ;",
		// Blocks apart, or within each other: still one function.
		"if 1 { var x int ; } else { var x int ; }", "if 1 { var x int ; } else { } var x int ;", "var x int ; if 1 { var x int ; } else { }", "var x int ; if 1 { } else { var x int ; }",
		"for 1 { var x int ; } for 1 { var x int ; }", "for 1 { var x int ; } var x int ;", "var x int ; for 1 { var x int ; }", "for 1 { for 1 { var x int ; } } if 1 { } else { var x float ; }",
		"if 1 { if 1 { var x int ; } else { } } else { if 1 { } else { var x int ; } }", "if 1 { var y int ; for 1 { var x int ; } var x int ; } else { }",
	)
	wantCode(t, impl.TypeName,
		"func f ( x int ) { var x int ; } func main ( ) { }", "func f ( x int , y int ) { for 1 { var y int ; } } func main ( ) { }", "func f ( x int , x int ) { } func main ( ) { }", "func f ( x int , y int , z int , x float ) { } func main ( ) { }",
		"func main ( ) { } func f ( x int ) { if 1 { } else { var x float ; } }", "func main ( ) { } func g ( ) { } func f ( ) { var a int ; var a int ; }",
	)
	wantCode(t, impl.TypeWell,
		"func f ( x int ) { var y int ; } func g ( y int ) { var x int ; } func main ( ) { var x int ; var y int ; }", "func f ( x int ) { } func g ( x float ) { } func main ( ) { }",
		"func main ( ) { if 1 { var x int ; } else { var y int ; } for 0 { var z int ; } var u int ; }",
	)
}

// uses are statements that use x, in each place where an expression stands. All are well where x is an int.
func uses() []string {
	return []string{
		"x = 1 ;", "print x ;", "panic x ;", "for x { }", "if x { } else { }", "print ( x + 1 ) ;", "print ( 1 + x ) ;", "print float ( x ) ;", "print make [ ] int ( x ) [ 0 ] ;", "print make [ ] int ( 0 ) [ x ] ;",
		"make [ ] int ( 1 ) [ x ] = 1 ;", "make [ ] int ( x ) [ 0 ] = 1 ;", "make [ ] int ( 0 ) [ 0 ] = x ;", "do use ( x ) ;", "print use ( x ) ;", "print len ( make [ ] int ( x ) ) ;", "print ( ( 1 - ( 2 * use ( x ) ) ) / 3 ) ;", "for 1 { print x ; }", "if 1 { print x ; } else { }", "if 1 { } else { print x ; }", "for 1 { for 1 { if 0 { } else { x = 2 ; } } }",
	}
}

const useFunc = "func use ( a int ) int { return a ; }"

func TestWhereVariablesAreSeen(t *testing.T) {
	for _, use := range uses() {
		wantCodeInMain(t, impl.TypeWell, useFunc,
			"var x int ; "+use, "var x int ; var y int ; "+use, "var x int ; for 1 { "+use+" }", "var x int ; if 1 { "+use+" } else { }", "var x int ; if 1 { } else { "+use+" }",
			"for 1 { var x int ; "+use+" }", "for 1 { var x int ; for 1 { "+use+" } }", "if 1 { var x int ; if 1 { } else { "+use+" } } else { }", "if 1 { } else { var x int ; "+use+" }", "var x int ; for 1 { var y int ; } "+use,
			"var x int ; if 1 { var y int ; } else { var z int ; } "+use,
		)
		wantCodeInMain(t, impl.TypeName, useFunc,
			use, "var y int ; "+use, "for 1 { "+use+" }",
			// Behind the block that it stands in, or beside that.
			"for 1 { var x int ; } "+use, "if 1 { var x int ; } else { } "+use, "if 1 { } else { var x int ; } "+use, "for 1 { for 1 { var x int ; } "+use+" }", "for 1 { var x int ; } for 1 { "+use+" }",
			"if 1 { var x int ; } else { "+use+" }", "if 1 { "+use+" } else { var x int ; }", "if 1 { var x int ; if 1 { } else { } } else { for 1 { "+use+" } }", "for 1 { if 1 { var x int ; } else { } if 1 { "+use+" } else { } }",
		)
		if use != "panic x ;" {
			wantCodeInMain(t, impl.TypeName, useFunc,
				use+" var x int ;", "for 1 { "+use+" } var x int ;", "for 1 { "+use+" var x int ; }", "if 1 { "+use+" } else { } var x int ;", "for 1 { "+use+" for 1 { var x int ; } }",
			)
		}
		wantCode(t, impl.TypeWell, useFunc+" func f ( x int ) { "+use+" } func main ( ) { }", useFunc+" func main ( ) { } func f ( y int , x int ) { for 1 { if 0 { "+use+" } else { } } }")
		wantCode(t, impl.TypeName, useFunc+" func f ( x int ) { } func main ( ) { "+use+" }", useFunc+" func main ( ) { var x int ; } func f ( ) { "+use+" }", useFunc+" func f ( ) { "+use+" } func main ( ) { var x int ; }")
	}
	wantCodeInMain(t, impl.TypeName, "",
		"for x { var x int ; }", "if x { var x int ; } else { }", "if x { } else { var x int ; }", "for ( 1 + x ) { var x int ; }", "var y int ; y = x ; var x int ;", "x = 1 ; var x int ;", "for 1 { for x { var x int ; } }",
	)
	// The word of a function, a struct or a field is no variable.
	wantCode(t, impl.TypeName,
		"func f ( ) int { return 1 ; } func main ( ) { print f ; }", "func f ( ) int { return 1 ; } func main ( ) { f = 1 ; }", "func main ( ) { print main ; }", "type A struct { x int ; } func main ( ) { print x ; }", "type A struct { x int ; } func main ( ) { var a * A ; a . x = x ; }",
	)
}

// TestNameInItsOwnDeclaration: a StVar has no room for an expression, so what uses one there is no source.
func TestNameInItsOwnDeclaration(t *testing.T) {
	s := mainOf(declare("x", tyInt()))
	s.Funcs[0].Body[0].Kids = []impl.Expr{named("x")}
	if _, code := check(t, s); code != impl.TypeForm {
		t.Errorf("a StVar with a Kid is told %d", code)
	}
	if typedOk(t, s) {
		t.Error("a StVar with a Kid is TypedOk")
	}
}

func TestNamesOfCalls(t *testing.T) {
	for _, c := range []string{"do %s ( ) ;", "if 1 { do %s ( ) ; } else { }", "if 1 { } else { do %s ( ) ; }", "for 0 { do %s ( ) ; }", "for 0 { for 1 { do %s ( ) ; } }"} {
		text := func(name string) string { return fmt.Sprintf(c, name) }
		wantCode(t, impl.TypeWell,
			"func main ( ) { "+text("main")+" }", "func f ( ) { } func main ( ) { "+text("f")+" }", "func main ( ) { "+text("f")+" } func f ( ) { }", "func f ( ) { "+text("f")+" } func main ( ) { }", "func f ( ) { "+text("main")+" } func main ( ) { "+text("g")+" } func g ( ) { "+text("f")+" }",
			"func f ( ) { } func main ( ) { var f int ; "+text("f")+" }",
		)
		wantCode(t, impl.TypeName,
			"func main ( ) { "+text("f")+" }", "func main ( ) { "+text("mains")+" }", "func f ( ) { "+text("g")+" } func main ( ) { }", "func main ( ) { var f int ; "+text("f")+" }", "func g ( f int ) { "+text("f")+" } func main ( ) { }", "type A struct { f int ; } func main ( ) { "+text("f")+" }",
		)
	}
	for _, place := range []string{"print f ( ) ;", "print ( 1 + f ( ) ) ;", "print ( f ( ) < 1 ) ;", "panic f ( ) ;", "for f ( ) { }", "if f ( ) { } else { }", "do use ( f ( ) ) ;", "print use ( use ( f ( ) ) ) ;", "print make [ ] int ( f ( ) ) [ f ( ) ] ;", "make [ ] int ( 1 ) [ f ( ) ] = 1 ;", "make [ ] int ( 1 ) [ 0 ] = f ( ) ;", "print len ( make [ ] int ( f ( ) ) ) ;", "print float ( f ( ) ) ;"} {
		wantCodeInMain(t, impl.TypeName, useFunc, place)
		wantCodeInMain(t, impl.TypeWell, useFunc+" func f ( ) int { return 1 ; }", place)
	}
	// Names are looked at whatever the types: of a field, of too many arguments, behind what has no type.
	wantCodeInMain(t, impl.TypeName, "", "f ( ) . a = 1 ;", "1 . a = x ;", "print g . a ;", "do main ( x ) ;", "print ( nil1 + 0f0000000000000000 ) ;", "print 1 [ x ] ;")
}
