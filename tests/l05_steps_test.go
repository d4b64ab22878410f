package tests

import (
	"fmt"
	"strings"
	"testing"

	"loop.example/g00306/impl"
)

// TestEveryFuel goes through all fuels of small sources, with Steps, Out and End of each written out.
func TestEveryFuel(t *testing.T) {
	wantWithFuel(t, "func main ( ) { }", nil, "exit in 0:", "exit in 0:", "exit in 0:")
	wantWithFuel(t, "func main ( ) { return ; }", nil, "fuel in 0:", "exit in 1:", "exit in 1:")
	wantWithFuel(t, "func main ( ) { print ( 7 + 1 ) ; }", nil, "fuel in 0:", "fuel in 1:", "fuel in 2:", "fuel in 3:", "exit in 4: 8", "exit in 4: 8")
	wantWithFuel(t, "func main ( ) { print 1 ; print 0f3ff0000000000000 ; }", nil,
		"fuel in 0:", "fuel in 1:", "fuel in 2: 1", "fuel in 3: 1", "exit in 4: 1 0f3ff0000000000000", "exit in 4: 1 0f3ff0000000000000")
	wantWithFuel(t, "func main ( ) { print 5 ; panic -9 ; }", nil, "fuel in 0:", "fuel in 1:", "fuel in 2: 5", "fuel in 3: 5", "panic -9 in 4: 5", "panic -9 in 4: 5")
	wantWithFuel(t, "func main ( ) { print read ; print ( 1 / read ) ; }", []int{3},
		"fuel in 0:", "fuel in 1:", "fuel in 2: 3", "fuel in 3: 3", "fuel in 4: 3", "fuel in 5: 3", "trap zero in 6: 3", "trap zero in 6: 3")
	wantWithFuel(t, "func f ( ) { print 1 ; do f ( ) ; } func main ( ) { do f ( ) ; }", nil,
		"fuel in 0:", "fuel in 1:", "fuel in 2:", "fuel in 3:", "fuel in 4: 1", "fuel in 5: 1", "fuel in 6: 1", "fuel in 7: 1", "fuel in 8: 1 1", "fuel in 9: 1 1")
	// Behind the last Kid of the loop nothing more is a step.
	wantWithFuel(t, "func main ( ) { for read { print 4 ; } }", []int{1},
		"fuel in 0:", "fuel in 1:", "fuel in 2:", "fuel in 3:", "fuel in 4: 4", "exit in 5: 4", "exit in 5: 4")
	wantWithFuel(t, "func main ( ) { for 1 { } }", nil, "fuel in 0:", "fuel in 1:", "fuel in 2:", "fuel in 3:", "fuel in 4:")
}

// TestWhatIsAStep: of each kind of part, how many.
func TestWhatIsAStep(t *testing.T) {
	heads := "type P struct { a int ; n * P ; } func none ( ) { } func back ( ) { return ; } func id ( x int ) int { return x ; } func two ( x int , y int ) { }"
	wantStepsIn(t, heads, []int{5}, [][2]string{
		{"", "exit in 0:"},
		{"var x int ;", "exit in 1:"},
		{"var x int ; var y float ; var p * P ; var l [ ] int ;", "exit in 4:"},
		{"return ;", "exit in 1:"},
		{"print 1 ;", "exit in 2: 1"},
		{"print read ;", "exit in 2: 5"},
		{"panic 1 ;", "panic 1 in 2:"},
		{"print ( 1 + 2 ) ;", "exit in 4: 3"},
		{"print ( ( 1 + 2 ) + ( 3 + 4 ) ) ;", "exit in 8: 10"},
		{"print int ( 0f3ff0000000000000 ) ;", "exit in 3: 1"},
		{"print float ( 1 ) ;", "exit in 3: 0f3ff0000000000000"},
		{"print len ( make [ ] int ( 3 ) ) ;", "exit in 4: 3"},
		{"print new P . a ;", "exit in 3: 0"},
		{"print make [ ] int ( 1 ) [ 0 ] ;", "exit in 5: 0"},
		{"print ( new P == nil P ) ;", "exit in 4: 0"},
		// A call is a step, what it does goes on top, and that it is over is none.
		{"do none ( ) ;", "exit in 2:"},
		{"do back ( ) ;", "exit in 3:"},
		{"do id ( 3 ) ;", "exit in 5:"},
		{"print id ( id ( 3 ) ) ;", "exit in 8: 3"},
		{"do two ( 1 , ( 2 + 3 ) ) ;", "exit in 6:"},
		// An empty block is none, whichever one is done.
		{"if 1 { } else { }", "exit in 2:"},
		{"if 0 { } else { }", "exit in 2:"},
		{"if 1 { return ; } else { }", "exit in 3:"},
		{"if 0 { return ; } else { }", "exit in 2:"},
		{"if 1 { print 1 ; } else { print 2 ; var x int ; }", "exit in 4: 1"},
		{"if 0 { print 1 ; } else { print 2 ; var x int ; }", "exit in 5: 2"},
		{"for 0 { print 1 ; }", "exit in 2:"},
	})
}

// TestStepsOfTheLeftSide: it itself is none, its Kids are.
func TestStepsOfTheLeftSide(t *testing.T) {
	heads := "type P struct { a int ; n * P ; l [ ] int ; } func at ( x int ) int { return x ; }"
	wantStepsIn(t, heads, nil, [][2]string{
		{"var x int ; x = 1 ;", "exit in 3:"},
		{"var x int ; x = x ;", "exit in 3:"},
		{"new P . a = 1 ;", "exit in 3:"},
		{"nil P . a = 1 ;", "trap nil in 3:"},
		{"var p * P ; p = new P ; p . a = 1 ;", "exit in 6:"},
		{"var p * P ; p = new P ; p . n = p ; p . n . n . a = 1 ;", "exit in 11:"},
		{"make [ ] int ( 1 ) [ 0 ] = 7 ;", "exit in 5:"},
		{"var l [ ] int ; l = make [ ] int ( 2 ) ; l [ 1 ] = 7 ;", "exit in 8:"},
		{"var l [ ] int ; l = make [ ] int ( 2 ) ; l [ l [ 1 ] ] = 7 ;", "exit in 10:"},
		{"var l [ ] int ; l = make [ ] int ( 2 ) ; l [ at ( 1 ) ] = 7 ;", "exit in 11:"},
		{"var l [ ] int ; l [ 1 ] = 7 ;", "trap index in 5:"},
		{"var p * P ; p = new P ; p . l [ 0 ] = 7 ;", "trap index in 8:"},
	})
}

// TestStepsOfLoops: the statement is one step, its Kid one each time.
func TestStepsOfLoops(t *testing.T) {
	for times := range 6 {
		input := []int{1, 2, 3, 4, 5}[:times]
		wantStepsOf(t, "func main ( ) { for read { } }", input, fmt.Sprintf("exit in %d:", 2+times))
		wantStepsOf(t, "func main ( ) { for read { var x int ; } }", input, fmt.Sprintf("exit in %d:", 2+2*times))
		wantStepsOf(t, "func main ( ) { for ( 0 < read ) { print 9 ; } }", input, strings.TrimSpace(fmt.Sprintf("exit in %d: %s", 4+5*times, strings.Repeat("9 ", times))))
		wantStepsOf(t, "func main ( ) { for 1 { if read { } else { return ; } } }", input, fmt.Sprintf("exit in %d:", 5+3*times))
	}
	// Loops in loops.
	wantStepsOf(t, "func main ( ) { for read { for read { print 1 ; } } print 2 ; }", []int{1, 1, 1, 0, 1, 0, 0}, "exit in 16: 1 1 2")
}

// TestFuelUsedUpAtAnEnd: with just enough it ends by itself, with one too little by its fuel.
func TestFuelUsedUpAtAnEnd(t *testing.T) {
	heads := "type P struct { a int ; } func f ( x int ) int { return ( x / 0 ) ; } func deep ( ) { do deep ( ) ; }"
	for stmts, want := range map[string]string{
		"print 1 ; return ;":                           "exit in 3: 1",
		"print 1 ; do f ( 3 ) ;":                       "trap zero in 9: 1",
		"panic 4 ;":                                    "panic 4 in 2:",
		"panic ( 4 + 5 ) ;":                            "panic 9 in 4:",
		"print ( 1 / 0 ) ;":                            "trap zero in 4:",
		"print ( 1 % 0 ) ;":                            "trap zero in 4:",
		"print nil P . a ;":                            "trap nil in 3:",
		"print make [ ] int ( 0 ) [ 0 ] ;":             "trap index in 5:",
		"print len ( make [ ] int ( 101 ) ) ;":         "trap make in 4:",
		"nil P . a = 5 ;":                              "trap nil in 3:",
		"make [ ] int ( 0 ) [ 0 ] = 5 ;":               "trap index in 5:",
		"do deep ( ) ;":                                "deep in 120:",
		"if 0 { } else { if 1 { return ; } else { } }": "exit in 5:",
	} {
		s := wellTyped(t, mainText(heads, stmts))
		o := run(t, s, nil)
		if outcomeText(o) != want {
			t.Errorf("%s: %s, want %s", stmts, outcomeText(o), want)
		}
		for fuel := range o.Steps {
			if less := eval(t, s, nil, fuel); less.End != impl.EndFuel || less.Steps != fuel || less.Code != 0 {
				t.Errorf("%s, with fuel %d: %s", stmts, fuel, outcomeText(less))
			}
		}
		for _, fuel := range []int{o.Steps, o.Steps + 1, 2 * o.Steps, impl.MaxFuel} {
			if more := eval(t, s, nil, fuel); !sameOutcome(more, o) {
				t.Errorf("%s, with fuel %d: %s", stmts, fuel, outcomeText(more))
			}
		}
	}
}

// TestAllFuelUsed: the most that there may be is used to the last step.
func TestAllFuelUsed(t *testing.T) {
	// A loop of three steps each time, and the first one: so often it is done whole.
	const times = (impl.MaxFuel - 1) / 3
	o := run(t, wellTyped(t, "func main ( ) { for 1 { print 6 ; } }"), nil)
	if o.End != impl.EndFuel || o.Steps != impl.MaxFuel || len(o.Out) != times {
		t.Errorf("%d, %d steps, %d items", o.End, o.Steps, len(o.Out))
	}
	// What ends just there, or one step later.
	count := func(n int) string {
		return fmt.Sprintf("func main ( ) { var i int ; for ( i < %d ) { i = ( i + 1 ) ; } }", n)
	}
	whole := (impl.MaxFuel - 5) / 7
	o = run(t, wellTyped(t, count(whole)), nil)
	if o.End != impl.EndExit || o.Steps != 5+7*whole {
		t.Error(outcomeText(o))
	}
	o = run(t, wellTyped(t, count(whole+1)), nil)
	if o.End != impl.EndFuel || o.Steps != impl.MaxFuel {
		t.Error(outcomeText(o))
	}
}
