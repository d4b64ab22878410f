package tests

import (
	"fmt"
	"slices"
	"strings"
	"testing"

	"loop.example/g00306/impl"
)

// endSources are texts for each end that a source has, and for each part that may make it, with what they put out.
func endSources() []handSource {
	const p = "type P struct { i int ; n * P ; l [ ] * P ; } "
	list := []handSource{
		{emptyMain, nil, "exit:"},
		{"func main ( ) { print 1 ; return ; }", nil, "exit: 1"},
		{"func main ( ) { if read { print 1 ; return ; } else { print 2 ; } print 3 ; }", nil, "exit: 2 3"},
		{"func main ( ) { print 4 ; panic -9223372036854775808 ; }", nil, "panic -9223372036854775808: 4"},
		{"func main ( ) { panic 0 ; }", nil, "panic 0:"},
		{"func f ( n int ) { if n { do f ( ( n - 1 ) ) ; } else { panic read ; } print n ; } func main ( ) { print 1 ; do f ( 20 ) ; print 2 ; }", []int{77}, "panic 77: 1"},
		{"func main ( ) { do main ( ) ; }", nil, "deep:"},
		{"func main ( ) { print read ; do main ( ) ; }", []int{5, 6}, "deep: 5 6" + strings.Repeat(" 0", 58)},
		{"func f ( ) int { return g ( ) ; } func g ( ) int { return f ( ) ; } func main ( ) { print 1 ; print ( 2 + f ( ) ) ; }", nil, "deep: 1"},
		// Once more where it went well before.
		{"func f ( n int ) int { if ( n < 1 ) { return 0 ; } else { return f ( ( n - 1 ) ) ; } } func main ( ) { var i int ; for 1 { print f ( i ) ; i = ( i + 10 ) ; } }", nil, "deep: 0 0 0 0 0 0"},
	}
	for _, x := range []struct {
		end   string
		stmts []string
	}{
		{"trap nil:", []string{"print p . i ;", "p . i = 1 ;", "print new P . n . i ;", "q . n . n = q ;", "q = p . n ;", "print p . l [ 0 ] . i ;", "q = m [ 1 ] . n ;", "print ( nil P . i + ( 1 / 0 ) ) ;", "p . i = p . i ;"}},
		{"trap index:", []string{"print k [ 0 ] ;", "k [ 0 ] = 1 ;", "print l [ 3 ] ;", "l [ -1 ] = 2 ;", "m [ 3 ] = q ;", "q = m [ ( l [ 0 ] - 1 ) ] ;", "print f [ 9223372036854775807 ] ;", "f [ 2 ] = 0f0000000000000000 ;", "print make [ ] int ( 0 ) [ 0 ] ;", "q . l [ 0 ] = q ;", "m [ 3 ] . i = 1 ;", "print l [ 100 ] ;"}},
		{"trap zero:", []string{"print ( 1 / 0 ) ;", "print ( 1 % 0 ) ;", "l [ ( 1 / l [ 0 ] ) ] = 1 ;", "p . i = ( 5 % read ) ;", "k [ 0 ] = ( 1 / 0 ) ;", "print ( -9223372036854775808 / read ) ;", "do f1 ( ( 0 / 0 ) ) ;"}},
		{"trap make:", []string{"l = make [ ] int ( 101 ) ;", "m = make [ ] * P ( -1 ) ;", "f = make [ ] float ( 9223372036854775807 ) ;", "print len ( make [ ] int ( ( read - 1 ) ) ) ;", "m [ 3 ] = make [ ] * P ( 101 ) [ 0 ] ;"}},
	} {
		for _, stmt := range x.stmts {
			text := p + "func f1 ( n int ) { print n ; } func main ( ) { var p * P ; var q * P ; var k [ ] int ; var l [ ] int ; var m [ ] * P ; var f [ ] float ; q = new P ; l = make [ ] int ( 3 ) ; m = make [ ] * P ( 3 ) ; f = make [ ] float ( 2 ) ; print 8 ; " + stmt + " print 9 ; }"
			list = append(list, handSource{text, nil, x.end + " 8"})
		}
	}
	return list
}

// TestEachEndOfTexts is promise 16, by hand: each end, behind each list of passes, whatever is moved.
func TestEachEndOfTexts(t *testing.T) {
	t.Parallel()
	m := newMaker(spread(9000), 5)
	for _, x := range endSources() {
		o := run(t, wellTyped(t, x.text), x.input)
		if plainText(o) != x.want {
			t.Errorf("%s\n%s, want: %s", x.text, outcomeText(o), x.want)
		}
		for n, passes := range append(somePasses(), longPasses(m)) {
			image := wellImage(t, x.text, passes)
			for _, oracle := range someOracles(m) {
				s := impl.Setup{Half: 60 + m.pick(200), Stack: impl.MinStack + m.pick(100), Fuel: 9000, Input: x.input, Oracle: oracle}
				r := impl.RunImage(image, s)
				if plainResult(r) != x.want {
					t.Fatalf("%s\nbehind %v, with %s: %s\nwant: %s", x.text, passes, showSetup(s), resultText(r), x.want)
				}
			}
			if n%11 == 0 {
				runText(t, x.text, passes, impl.Setup{Half: 60, Stack: 30, Fuel: 9000, Input: x.input, Oracle: []int{1, 2, 1, 2}})
			}
		}
	}
}

// TestFuelOfTexts: with each fuel up to the end, what is put out is the beginning of what the source does; from there on
// it ends as the source does.
func TestFuelOfTexts(t *testing.T) {
	t.Parallel()
	sources := append(endSources()[:9], handSources()[:4]...)
	for _, x := range append(sources, keepSources()[:3]...) {
		o := impl.Eval(wellTyped(t, x.text), x.input, impl.MaxFuel)
		for _, passes := range [][]int{nil, passesOf("fcsd")} {
			image := wellImage(t, x.text, passes)
			s := impl.Setup{Half: 300, Stack: 40, Fuel: impl.MaxFuel, Input: x.input, Oracle: []int{1, 2, 1, 2, 1, 2}}
			steps := impl.RunImage(image, s).Steps
			fuels := append(upTo(min(steps, 250)), steps-2, steps-1, steps, steps+1, 2*steps, impl.MaxFuel-1)
			for _, fuel := range fuels {
				s.Fuel = max(0, fuel)
				r := impl.RunImage(image, s)
				wantMeans(t, x.text, passes, s, o, r)
				if endsItself(r) != (s.Fuel >= steps) || endsItself(r) && plainResult(r) != x.want || r.Steps != min(s.Fuel, steps) {
					t.Fatalf("%s\nwith fuel %d of %d: %s", x.text, s.Fuel, steps, resultText(r))
				}
			}
			wantMachineGoesOn(t, image, s, slices.Compact(slices.Sorted(slices.Values(append(upTo(min(steps, 100)), steps-1, steps, steps+1)))))
		}
	}
	// Of what never ends, with all fuel there may be.
	for text, items := range map[string]int{
		"func main ( ) { for 1 { } }":                                       0,
		"func main ( ) { var i int ; for 1 { print i ; i = ( i + 1 ) ; } }": 10000,
		"type P struct { n * P ; i int ; } func f ( p * P ) * P { var q * P ; q = new P ; q . i = ( p . i + 1 ) ; return q ; } func main ( ) { var p * P ; p = new P ; for 1 { p = f ( p ) ; print p . i ; } }": 5000,
	} {
		o := impl.Eval(wellTyped(t, text), nil, impl.MaxFuel)
		for _, passes := range [][]int{nil, passesOf("fcsd")} {
			for _, fuel := range []int{0, 1, 2, 100, 20000, impl.MaxFuel} {
				s := impl.Setup{Half: 8, Stack: 16, Fuel: fuel, Oracle: slices.Repeat([]int{1, 2}, 1000)}
				r := runText(t, text, passes, s)
				wantMeans(t, text, passes, s, o, r)
				if r.End != impl.EndFuel || r.Steps != fuel || fuel == impl.MaxFuel && len(r.Out) < items {
					t.Errorf("%s\nwith fuel %d: %s in %d, %d items", text, fuel, endText(r.End, r.Code), r.Steps, len(r.Out))
				}
			}
		}
	}
}

// TestMemoryOfTexts: with each half that is too small, what is put out is the beginning of what the source does.
func TestMemoryOfTexts(t *testing.T) {
	t.Parallel()
	short := 0
	for _, x := range append(movedSources(), endSources()...) {
		o := impl.Eval(wellTyped(t, x.text), x.input, impl.MaxFuel)
		for _, passes := range [][]int{nil, passesOf("sd")} {
			image := wellImage(t, x.text, passes)
			for half := impl.MinHalf; half < 120; half++ {
				s := impl.Setup{Half: half, Stack: impl.MinStack, Fuel: 40000, Input: x.input}
				r := impl.RunImage(image, s)
				wantMeans(t, x.text, passes, s, o, r)
				if r.End == impl.EndMemory {
					short++
				} else if plainResult(r) != x.want {
					t.Fatalf("%s\nbehind %v, with a half of %d: %s", x.text, passes, half, resultText(r))
				}
			}
		}
	}
	if short < 200 {
		t.Errorf("only %d ended for want of memory", short)
	}
	// A single object that no half of that size can have.
	for half, want := range map[int]string{99: "memory: 1", 100: "memory: 1", 101: "exit: 1 100", 4000: "exit: 1 100"} {
		for _, kind := range []string{"int", "float", "* P"} {
			wantTextRunAlike(t, "type P struct { } func main ( ) { print 1 ; print len ( make [ ] "+kind+" ( 100 ) ) ; }", impl.Setup{Half: half, Stack: 16, Fuel: 50}, want)
		}
	}
}

// wantTextRunAlike fails unless a text ends so in a setup, behind each list of passes.
func wantTextRunAlike(t *testing.T, text string, s impl.Setup, want string) {
	t.Helper()
	for _, passes := range somePasses() {
		if r := impl.RunText([]byte(text), passes, s); plainResult(r) != want {
			t.Errorf("%s\nbehind %v, with %s: %s\nwant: %s", text, passes, showSetup(s), resultText(r), want)
		}
	}
}

// TestPassesOfTexts is promise 17, of texts written by hand: behind each list of up to three passes, and some longer ones,
// the same is put out, with the same end.
func TestPassesOfTexts(t *testing.T) {
	t.Parallel()
	m := newMaker(spread(9000), 7)
	lists := somePasses()
	for n := range 64 {
		lists = append(lists, []int{n % 4, n / 4 % 4, n / 16})
	}
	for range 20 {
		lists = append(lists, longPasses(m))
	}
	for p := range 4 {
		lists = append(lists, slices.Repeat([]int{p}, impl.MaxPasses))
	}
	fewer, unlike := 0, map[string]int{}
	for _, x := range append(movedSources(), endSources()...) {
		plain := impl.RunText([]byte(x.text), nil, impl.Setup{Half: 1000, Stack: 500, Fuel: impl.MaxFuel, Input: x.input})
		for _, passes := range lists {
			r := impl.RunText([]byte(x.text), passes, impl.Setup{Half: 1000, Stack: 500, Fuel: impl.MaxFuel, Input: x.input, Oracle: []int{1, 2, 1, 2}})
			if plainResult(r) != x.want {
				t.Fatalf("%s\nbehind %v: %s\nwant: %s", x.text, passes, resultText(r), x.want)
			}
			if r.Steps < plain.Steps {
				fewer++
			}
			unlike[fmt.Sprint(x.text, r.Steps)]++
		}
	}
	if fewer < 500 || len(unlike) < 2*len(movedSources()) {
		t.Errorf("only %d were done in fewer steps, in %d ways", fewer, len(unlike))
	}
}

// TestPassesAndTraps: what a pass may not take away, since it would be seen.
func TestPassesAndTraps(t *testing.T) {
	for text, want := range map[string]string{
		// Nobody looks at these, but they trap.
		"func main ( ) { var x int ; print 1 ; x = ( 1 / read ) ; }":                                                     "trap zero: 1",
		"func main ( ) { var l [ ] int ; var x int ; print 1 ; x = l [ 0 ] ; }":                                          "trap index: 1",
		"type P struct { i int ; } func main ( ) { var p * P ; var x int ; print 1 ; x = p . i ; }":                      "trap nil: 1",
		"func main ( ) { var l [ ] int ; print 1 ; l = make [ ] int ( -1 ) ; }":                                          "trap make: 1",
		"func f ( ) int { print 2 ; return 1 ; } func main ( ) { var x int ; print 1 ; x = f ( ) ; }":                    "exit: 1 2",
		"func main ( ) { var x int ; x = read ; x = read ; print read ; }":                                               "exit: 7",
		"func main ( ) { if 0 { print ( 1 / 0 ) ; } else { print 3 ; } }":                                                "exit: 3",
		"func main ( ) { if 1 { print ( 1 / 0 ) ; } else { print 3 ; } }":                                                "trap zero:",
		"func main ( ) { for 0 { panic 1 ; } print 2 ; }":                                                                "exit: 2",
		"func main ( ) { print ( ( 0f7ff8000000000001 == 0f7ff8000000000001 ) + 5 ) ; }":                                 "exit: 5",
		"func main ( ) { print ( 0f0000000000000000 * 0fbff0000000000000 ) ; }":                                          "exit: 0f8000000000000000",
		"func main ( ) { print ( 9223372036854775807 + 1 ) ; print ( -9223372036854775808 / -1 ) ; print ( -7 % 4 ) ; }": "exit: -9223372036854775808 -9223372036854775808 -3",
		// What is the same by its parts is not always the same: each object is one of its own, each read another.
		"type P struct { } func main ( ) { print ( new P == new P ) ; print ( read == read ) ; print ( nil P == nil P ) ; }": "exit: 0 0 1",
		// Fields and elements change between two looks.
		"type P struct { i int ; } func main ( ) { var p * P ; p = new P ; print p . i ; p . i = 4 ; print p . i ; }":                          "exit: 0 4",
		"func main ( ) { var l [ ] int ; l = make [ ] int ( 2 ) ; l [ 1 ] = 3 ; print l [ 1 ] ; l [ ( l [ 0 ] + 1 ) ] = 5 ; print l [ 1 ] ; }": "exit: 3 5",
	} {
		wantTextRunAlike(t, text, impl.Setup{Half: 100, Stack: 100, Fuel: 900, Input: []int{0, 5, 7}}, want)
		wantRun(t, text, []int{0, 5, 7}, want)
	}
}

// TestOrderOfTexts: what is done first shows in what is put out and in which trap it is.
func TestOrderOfTexts(t *testing.T) {
	const heads = "type P struct { i int ; } func s ( n int ) int { print n ; return n ; } func l ( n int ) [ ] int { print n ; return make [ ] int ( n ) ; } func q ( n int ) * P { print n ; if n { return new P ; } else { return nil P ; } } func f ( a int , b int , c int ) int { print ( ( a * 100 ) + ( ( b * 10 ) + c ) ) ; return 0 ; } "
	for stmts, want := range map[string]string{
		"print ( s ( 1 ) + s ( 2 ) ) ;":                             "exit: 1 2 3",
		"print f ( s ( 1 ) , s ( 2 ) , s ( 3 ) ) ;":                 "exit: 1 2 3 123 0",
		"l ( 3 ) [ s ( 1 ) ] = s ( 2 ) ;":                           "exit: 3 1 2",
		"l ( 3 ) [ s ( 4 ) ] = s ( 2 ) ;":                           "trap index: 3 4 2",
		"l ( 3 ) [ s ( 4 ) ] = ( 1 / s ( 0 ) ) ;":                   "trap zero: 3 4 0",
		"q ( 0 ) . i = s ( 5 ) ;":                                   "trap nil: 0 5",
		"q ( 0 ) . i = q ( 1 ) . i ;":                               "trap nil: 0 1",
		"print ( l ( 2 ) [ s ( 2 ) ] / s ( 0 ) ) ;":                 "trap index: 2 2",
		"print ( q ( 1 ) == q ( 2 ) ) ;":                            "exit: 1 2 0",
		"if ( s ( 1 ) < s ( 0 ) ) { print 7 ; } else { print 8 ; }": "exit: 1 0 8",
		"print f ( s ( 1 ) , ( 1 % s ( 0 ) ) , s ( 3 ) ) ;":         "trap zero: 1 0",
		"print len ( make [ ] int ( ( s ( 2 ) - s ( 3 ) ) ) ) ;":    "trap make: 2 3",
	} {
		text := mainText(heads, stmts)
		wantRun(t, text, nil, want)
		for _, oracle := range [][]int{nil, slices.Repeat([]int{1}, 50), slices.Repeat([]int{2}, 50), {1, 2, 1, 2, 1, 2, 1, 2}} {
			wantTextRunAlike(t, text, impl.Setup{Half: 40, Stack: 30, Fuel: 900, Oracle: oracle}, want)
		}
	}
}
