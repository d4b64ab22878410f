package tests

import (
	"fmt"
	"math"
	"testing"

	"loop.example/g00306/impl"
)

// TestEnds has each end with its Code, Out and Steps, written out as they are handed back.
func TestEnds(t *testing.T) {
	heads := "type P struct { a int ; } func f ( ) { do f ( ) ; }"
	for _, x := range []struct {
		stmts string
		fuel  int
		want  impl.Outcome
	}{
		{"", 0, impl.Outcome{End: impl.EndExit}},
		{"print 4 ;", 50, impl.Outcome{End: impl.EndExit, Out: []impl.Item{{N: 4}}, Steps: 2}},
		{"print 4 ; return ;", 50, impl.Outcome{End: impl.EndExit, Out: []impl.Item{{N: 4}}, Steps: 3}},
		{"panic 4 ;", 50, impl.Outcome{End: impl.EndPanic, Code: 4, Steps: 2}},
		{"print 4 ; panic 5 ;", 50, impl.Outcome{End: impl.EndPanic, Code: 5, Out: []impl.Item{{N: 4}}, Steps: 4}},
		{"print nil P . a ;", 50, impl.Outcome{End: impl.EndTrap, Code: impl.TrapNil, Steps: 3}},
		{"print make [ ] int ( 3 ) [ 3 ] ;", 50, impl.Outcome{End: impl.EndTrap, Code: impl.TrapIndex, Steps: 5}},
		{"print ( 3 % 0 ) ;", 50, impl.Outcome{End: impl.EndTrap, Code: impl.TrapZero, Steps: 4}},
		{"print 1 ; print len ( make [ ] int ( -3 ) ) ;", 50, impl.Outcome{End: impl.EndTrap, Code: impl.TrapMake, Out: []impl.Item{{N: 1}}, Steps: 6}},
		{"print 1 ; for 1 { }", 50, impl.Outcome{End: impl.EndFuel, Out: []impl.Item{{N: 1}}, Steps: 50}},
		{"print 1 ; do f ( ) ;", 500, impl.Outcome{End: impl.EndDeep, Out: []impl.Item{{N: 1}}, Steps: 2 + 2*impl.MaxCalls}},
	} {
		if o := eval(t, wellTyped(t, mainText(heads, x.stmts)), nil, x.fuel); !sameOutcome(o, x.want) {
			t.Errorf("%s: %+v\nwant %+v", x.stmts, o, x.want)
		}
	}
}

// TestPanics: the Code may be any int; it is told apart from a trap by the end alone.
func TestPanics(t *testing.T) {
	for _, code := range []int{0, 1, -1, -9, impl.TrapNil, impl.TrapIndex, impl.TrapZero, impl.TrapMake, 7, math.MinInt, math.MaxInt} {
		want := impl.Outcome{End: impl.EndPanic, Code: code, Steps: 2}
		for _, text := range []string{fmt.Sprintf("func main ( ) { panic %d ; }", code), "func main ( ) { panic read ; }"} {
			if o := run(t, wellTyped(t, text), []int{code}); !sameOutcome(o, want) {
				t.Errorf("%s: %+v", text, o)
			}
		}
	}
	// Nothing is done behind one, however deep in calls, loops and ifs it stands.
	heads := "func f ( n int ) int { print n ; if n { for 1 { print f ( ( n - 1 ) ) ; } } else { panic ( n - 5 ) ; } return 1 ; }"
	wantRuns(t, heads, nil, [][2]string{
		{"print ( f ( 2 ) + f ( 3 ) ) ; print 9 ;", "panic -5: 2 1 0"},
		{"if f ( 0 ) { print 1 ; } else { print 2 ; } print 9 ;", "panic -5: 0"},
		{"for f ( 1 ) { print 1 ; }", "panic -5: 1 0"},
		{"panic f ( 0 ) ;", "panic -5: 0"},
		{"make [ ] int ( 4 ) [ f ( 0 ) ] = f ( 1 ) ;", "panic -5: 0"},
		{"do f ( f ( 0 ) ) ;", "panic -5: 0"},
	})
}

// TestTrapsInCalls end all calls that are under way.
func TestTrapsInCalls(t *testing.T) {
	heads := "type P struct { a int ; } func f ( n int ) int { print n ; if ( n == 0 ) { print nil P . a ; } else { } do f ( ( n - 1 ) ) ; print 99 ; return 1 ; }"
	wantRuns(t, heads, nil, [][2]string{
		{"do f ( 3 ) ; print 9 ;", "trap nil: 3 2 1 0"},
		{"for 1 { if f ( 1 ) { } else { } } print 9 ;", "trap nil: 1 0"},
	})
}

// TestEndsAreNotKept: what one call did is nowhere to be seen in the next one.
func TestEndsAreNotKept(t *testing.T) {
	var sources []impl.Source
	for _, stmts := range []string{"print read ; print 2 ;", "panic 3 ;", "print ( 1 / 0 ) ;", "do main ( ) ;", "for 1 { print 1 ; }", "var x int ; x = ( x + 1 ) ; print x ; print read ;"} {
		sources = append(sources, wellTyped(t, mainText("", stmts)))
	}
	var first []impl.Outcome
	for _, s := range sources {
		first = append(first, eval(t, s, []int{4, 5}, 900))
	}
	for round := range 3 {
		for i := range sources {
			at := (i*5 + round) % len(sources)
			if o := eval(t, sources[at], []int{4, 5}, 900); !sameOutcome(o, first[at]) {
				t.Errorf("%d, once more: %s, at first: %s", at, outcomeText(o), outcomeText(first[at]))
			}
			impl.Eval(sources[at], []int{4, 5}, 900-round)
			impl.Eval(impl.Source{}, nil, -1)
		}
	}
}

// TestOutIsNew: two answers share nothing, and what is written into one is not seen later.
func TestOutIsNew(t *testing.T) {
	s := wellTyped(t, "func main ( ) { var i int ; for ( i < 9 ) { print i ; i = ( i + 1 ) ; } }")
	a, b := impl.Eval(s, nil, 1000), impl.Eval(s, nil, 1000)
	wantFresh(t, a, b)
	for i := range a.Out {
		a.Out[i] = impl.Item{Kind: -1, N: -1}
	}
	_ = append(a.Out, impl.Item{Kind: 5})
	if c := impl.Eval(s, nil, 1000); !sameOutcome(b, c) || itemsText(b.Out) != "0 1 2 3 4 5 6 7 8" {
		t.Errorf("%s and %s", outcomeText(b), outcomeText(c))
	}
	if none := impl.Eval(wellTyped(t, "func main ( ) { }"), nil, 5); len(none.Out) != 0 {
		t.Error(outcomeText(none))
	}
}
