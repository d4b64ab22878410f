package tests

import (
	"fmt"
	"slices"
	"strings"
	"testing"

	"loop.example/g00306/impl"
)

// keepSources are texts that keep objects in each place where they may be kept, written by hand, with what they put out.
func keepSources() []handSource {
	const p = "type P struct { v int ; n * P ; l [ ] * P ; } "
	return []handSource{
		// In variables: of each type that is an object, some of them made again, one never made.
		{p + "func main ( ) { var a * P ; var b [ ] int ; var c [ ] float ; var d [ ] * P ; var e [ ] int ; a = new P ; a . v = 1 ; b = make [ ] int ( 2 ) ; b [ 1 ] = 2 ; c = make [ ] float ( 3 ) ; c [ 2 ] = 0f3ff8000000000000 ; d = make [ ] * P ( 2 ) ; d [ 0 ] = a ; b = make [ ] int ( 5 ) ; b [ 4 ] = 12003 ; a = new P ; a . v = 7 ; print a . v ; print d [ 0 ] . v ; print b [ 4 ] ; print c [ 2 ] ; print len ( e ) ; print ( d [ 0 ] == a ) ; print ( d [ 1 ] == nil P ) ; }",
			nil, "exit: 7 1 12003 0f3ff8000000000000 0 0 1"},
		// In fields: a ring, and numbers beside the pointers that could be places.
		{"type R struct { a int ; p * R ; b float ; q * R ; c int ; } func main ( ) { var x * R ; var y * R ; var i int ; x = new R ; x . a = 12000 ; x . p = x ; x . q = new R ; x . q . q = x ; x . q . a = 12006 ; x . c = -1 ; for ( i < 6 ) { y = new R ; y . p = x ; y . q = x . q ; x = y ; i = ( i + 1 ) ; } print x . q . a ; print ( x . q . q == x ) ; print x . q . q . a ; print ( x . q . q . p == x . q . q ) ; print x . q . q . c ; print ( x . p . p . p . p . p . p == x . q . q ) ; }",
			nil, "exit: 12006 0 12000 1 -1 1"},
		// In elements: a table of structs that have tables themselves.
		{p + "func main ( ) { var t [ ] * P ; var i int ; var j int ; t = make [ ] * P ( 5 ) ; for ( i < 5 ) { t [ i ] = new P ; t [ i ] . v = ( i * i ) ; t [ i ] . l = make [ ] * P ( 5 ) ; j = 0 ; for ( j < ( i + 1 ) ) { t [ i ] . l [ j ] = t [ j ] ; j = ( j + 1 ) ; } i = ( i + 1 ) ; } print t [ 4 ] . l [ 3 ] . l [ 2 ] . v ; print ( t [ 4 ] . l [ 3 ] . l [ 2 ] == t [ 2 ] ) ; print ( t [ 2 ] . l [ 3 ] == nil P ) ; print len ( t [ 1 ] . l ) ; t = t [ 3 ] . l ; print t [ 1 ] . v ; print t [ 3 ] . v ; }",
			nil, "exit: 4 1 1 5 1 9"},
		// Across calls: what is passed, what came back, and what was there before.
		{p + "func two ( a * P , b * P ) * P { var c * P ; c = new P ; c . n = a ; c . l = make [ ] * P ( 1 ) ; c . l [ 0 ] = b ; c . v = ( a . v + b . v ) ; return c ; } func one ( v int ) * P { var c * P ; c = new P ; c . v = v ; return c ; } func main ( ) { var k * P ; var r * P ; k = one ( 5 ) ; r = two ( two ( one ( 1 ) , k ) , two ( one ( 2 ) , two ( k , one ( 3 ) ) ) ) ; print r . v ; print r . n . v ; print r . l [ 0 ] . l [ 0 ] . n . v ; print ( r . l [ 0 ] . l [ 0 ] . n == k ) ; print ( r . n . l [ 0 ] == k ) ; k = nil P ; print one ( 4 ) . v ; print r . n . l [ 0 ] . v ; }",
			nil, "exit: 16 6 5 1 1 4 5"},
		// In many frames at once: each keeps one object for itself, and hangs it on what it is given.
		{p + "func down ( d int , p * P ) int { var q * P ; var s int ; q = new P ; q . v = d ; q . n = p ; if ( d == 0 ) { for ( ( q == nil P ) == 0 ) { s = ( s + q . v ) ; q = q . n ; } return s ; } else { s = down ( ( d - 1 ) , q ) ; } if ( q . v == d ) { return ( s + 1 ) ; } else { return -1 ; } } func main ( ) { print down ( read , nil P ) ; print down ( 3 , new P ) ; }",
			[]int{40}, "exit: 860 9"},
		// Lists that share elements, and of no element; two that have nothing are still two.
		{"type E struct { } type L struct { a [ ] * E ; b [ ] * E ; } func main ( ) { var l * L ; var x * E ; var y * E ; l = new L ; x = new E ; y = new E ; l . a = make [ ] * E ( 0 ) ; l . b = make [ ] * E ( 2 ) ; l . b [ 0 ] = x ; l . b [ 1 ] = y ; l . a = l . b ; x = new E ; print ( x == y ) ; print ( l . a [ 0 ] == x ) ; print ( l . a [ 1 ] == y ) ; l . a [ 0 ] = x ; print ( l . b [ 0 ] == x ) ; print len ( make [ ] int ( 0 ) ) ; }",
			nil, "exit: 0 0 1 1 0"},
		// A queue that goes on and on: what is behind is left, what is ahead is kept.
		{p + "func main ( ) { var h * P ; var t * P ; var i int ; var s int ; h = new P ; t = h ; for ( i < 200 ) { t . n = new P ; t = t . n ; t . v = i ; if ( i < 4 ) { } else { h = h . n ; } s = ( s + h . v ) ; i = ( i + 1 ) ; } print s ; print t . v ; print h . v ; }",
			nil, "exit: 19110 199 195"},
		// Lists of numbers that look like places, beside lists of pointers.
		{"type N struct { l [ ] int ; f [ ] float ; p [ ] * N ; } func main ( ) { var n * N ; var i int ; var s int ; n = new N ; n . l = make [ ] int ( 20 ) ; for ( i < 20 ) { n . l [ i ] = ( 12000 + i ) ; i = ( i + 1 ) ; } n . f = make [ ] float ( 3 ) ; n . f [ 1 ] = 0f0000000000002ee0 ; n . p = make [ ] * N ( 2 ) ; n . p [ 1 ] = n ; i = 0 ; for ( i < 20 ) { s = ( s + n . p [ 1 ] . l [ i ] ) ; n . p = make [ ] * N ( 2 ) ; n . p [ 1 ] = n ; i = ( i + 1 ) ; } print s ; print n . p [ 1 ] . f [ 1 ] ; }",
			nil, "exit: 240190 0f0000000000002ee0"},
	}
}

// movedSources are all that are written by hand.
func movedSources() []handSource {
	return append(handSources(), keepSources()...)
}

func TestKeepSources(t *testing.T) {
	for _, x := range keepSources() {
		wantRun(t, x.text, x.input, x.want)
	}
}

// TestOraclesOfTexts is promise 14, of texts written by hand: behind each list of passes, in rooms small and great, whatever
// is moved when, the same is put out in as many steps.
func TestOraclesOfTexts(t *testing.T) {
	t.Parallel()
	m := newMaker(spread(9000), 3)
	ends, moves, copies := map[int]int{}, 0, 0
	for _, x := range movedSources() {
		for n, passes := range somePasses() {
			image := wellImage(t, x.text, passes)
			for _, s := range []impl.Setup{
				{Half: impl.MaxHalf, Stack: impl.MaxStack, Fuel: 40000},
				{Half: impl.MinHalf + m.pick(150), Stack: impl.MinStack + m.pick(60), Fuel: 40000},
				{Half: 100 + m.pick(100), Stack: 100, Fuel: m.pick(900)},
			} {
				s.Input = x.input
				for at, r := range wantOraclesAlike(t, x.text, image, s, someOracles(m)) {
					if endsItself(r) && plainResult(r) != x.want || r.End == impl.EndStuck || s.Half == impl.MaxHalf && !endsItself(r) {
						t.Fatalf("%s\nbehind %v, with the oracle %d: %s\nwant: %s", x.text, passes, at, resultText(r), x.want)
					}
					ends[r.End]++
					moves, copies = moves+r.Moves, copies+r.Copies
				}
			}
			if n%9 == 0 {
				// The second machine sees it likewise.
				runMachine(t, image, impl.Setup{Half: 120, Stack: 40, Fuel: 3000, Input: x.input, Oracle: someOracles(m)[3]})
			}
		}
	}
	t.Logf("%v, %d moves, %d copies", ends, moves, copies)
	if ends[impl.EndMemory] < 100 || ends[impl.EndFuel] < 100 || ends[impl.EndDeep] < 100 || ends[impl.EndTrap] < 100 || moves < 100000 || copies < 100000 {
		t.Error("too little was moved, or ended in too few ways")
	}
}

// TestEachOracleOfAText is promise 14 of some texts, with each oracle of 0, 1 and 2 that says so much.
func TestEachOracleOfAText(t *testing.T) {
	t.Parallel()
	for _, x := range []handSource{
		{"type P struct { v int ; n * P ; } func f ( p * P , v int ) * P { var q * P ; q = new P ; q . n = p ; q . v = v ; return q ; } func main ( ) { var a * P ; var b [ ] * P ; a = f ( nil P , 1 ) ; b = make [ ] * P ( 2 ) ; b [ 1 ] = a ; a = f ( b [ 1 ] , 2 ) ; b [ 0 ] = f ( a , 3 ) ; print b [ 0 ] . n . n . v ; print ( b [ 0 ] . n . n == b [ 1 ] ) ; print a . v ; }", nil, "exit: 1 1 2"},
		{"type P struct { v [ ] int ; } func f ( d int , p * P ) int { if d { var q * P ; q = new P ; q . v = make [ ] int ( d ) ; q . v [ ( d - 1 ) ] = ( d + p . v [ 0 ] ) ; return ( f ( ( d - 1 ) , p ) + q . v [ ( d - 1 ) ] ) ; } else { return p . v [ 0 ] ; } } func main ( ) { var p * P ; p = new P ; p . v = make [ ] int ( 1 ) ; p . v [ 0 ] = 100 ; print f ( 2 , p ) ; }", nil, "exit: 303"},
	} {
		image := wellImage(t, x.text, nil)
		const places = 7
		oracle := make([]int, places)
		var next func(at int)
		seen := map[string]int{}
		next = func(at int) {
			if at < places {
				for oracle[at] = range 3 {
					next(at + 1)
				}
				return
			}
			for _, half := range []int{15, 30} {
				r := impl.RunImage(image, impl.Setup{Half: half, Stack: 30, Fuel: 900, Oracle: oracle})
				if plainResult(r) != x.want && r.End != impl.EndMemory {
					t.Fatalf("%s\nwith %v: %s", x.text, oracle, resultText(r))
				}
				if r.End != impl.EndMemory {
					seen[fmt.Sprint(r.Steps)]++
				}
			}
		}
		next(0)
		if len(seen) != 1 {
			t.Errorf("%s\nends after %v steps", x.text, seen)
		}
	}
}

// TestOraclesAndMemory: one of two oracles makes an end for want of memory that the other one does not make; what is put
// out with it is the beginning.
func TestOraclesAndMemory(t *testing.T) {
	// Each call doubles the stack, if that has no room; where it lies decides whether there is a region so great. The first
	// frames are small, and a great one comes last.
	vars, names := declarations("v", 100)
	great := "func g ( d int ) { " + vars + "do f ( 0 ) ; if d { do g ( ( d - 1 ) ) ; } else { } print d ; "
	for _, name := range names {
		great += "print " + name + " ; "
	}
	text := "func f ( d int ) { if d { do f ( ( d - 1 ) ) ; } else { } } " + great + "} func main ( ) { print -1 ; do f ( 3 ) ; do g ( read ) ; print -2 ; }"
	image := wellImage(t, text, nil)
	seen := map[string]int{}
	for depth := 10; depth < 60; depth += 7 {
		for stack := 16; stack <= 2000; stack += 124 {
			s := impl.Setup{Half: 8, Stack: stack, Fuel: 60000, Input: []int{depth}}
			list := wantOraclesAlike(t, text, image, s, [][]int{nil, {2}, {2, 2}, {0, 2}, slices.Repeat([]int{2}, 2000), slices.Repeat([]int{0, 2}, 20)})
			both := 0
			for _, r := range list {
				both |= 1 << min(2, r.End-impl.EndExit)
			}
			seen[fmt.Sprint(both)]++
		}
	}
	t.Log(seen)
	// All end by themselves; all for want of memory; some so and some so.
	for _, both := range []string{"1", "4", "5"} {
		if seen[both] == 0 {
			t.Errorf("not of all sorts: %v", seen)
		}
	}
	// What is kept fits just where all that is left behind is not kept, too: a collection never makes it worse.
	list := "type P struct { n * P ; } func main ( ) { var p * P ; var q * P ; var i int ; for ( i < 9 ) { q = new P ; q . n = p ; p = q ; print i ; i = ( i + 1 ) ; } }"
	image = wellImage(t, list, nil)
	for half, want := range map[int]string{17: "memory: 0 1 2 3 4 5 6 7", 18: "exit: 0 1 2 3 4 5 6 7 8", 8: "memory: 0 1 2 3"} {
		for _, r := range wantOraclesAlike(t, list, image, setupOf(half, 16), [][]int{nil, {1}, {0, 1, 1}, slices.Repeat([]int{1}, 20)}) {
			if plainResult(r) != want {
				t.Errorf("with a half of %d: %s", half, resultText(r))
			}
		}
	}
}

// leastHalf is the first half with which an image does not end for want of memory.
func leastHalf(t *testing.T, text string, m impl.Image, s impl.Setup) int {
	t.Helper()
	for half := impl.MinHalf; half <= impl.MaxHalf; half++ {
		s.Half = half
		if r := impl.RunImage(m, s); r.End != impl.EndMemory {
			return half
		}
	}
	t.Fatalf("no half is enough for %s", text)
	return 0
}

// TestHalvesOfTexts is promise 15, of texts written by hand: with the half that just fits and with each greater one, alike,
// in as many steps, with no more collections.
func TestHalvesOfTexts(t *testing.T) {
	t.Parallel()
	moved, least := 0, 0
	for _, x := range movedSources() {
		for _, passes := range [][]int{nil, passesOf("s"), passesOf("fcsd")} {
			image := wellImage(t, x.text, passes)
			s := impl.Setup{Stack: 100, Fuel: 40000, Input: x.input}
			first := leastHalf(t, x.text, image, s)
			var halves []int
			for half := max(impl.MinHalf, first-3); half < first+60; half++ {
				halves = append(halves, half)
			}
			halves = append(halves, first+100, 500, 1000, 2000, impl.MaxHalf)
			list := wantHalvesAlike(t, x.text, image, s, halves)
			for n, r := range list {
				if fits := halves[n] >= first; fits == (r.End == impl.EndMemory) || fits && plainResult(r) != x.want {
					t.Fatalf("%s\nbehind %v, with a half of %d: %s", x.text, passes, halves[n], resultText(r))
				}
			}
			if first > impl.MinHalf {
				least++
				moved += list[slices.Index(halves, first)].Moves
			}
		}
	}
	if least < 20 || moved < 200 {
		t.Errorf("%d needed more than the least half, and moved %d times", least, moved)
	}
}

// TestMovesByHalf: how often all is moved, by hand, where each turn of a loop takes three words and keeps three.
func TestMovesByHalf(t *testing.T) {
	text := "type P struct { v int ; n * P ; } func main ( ) { var p * P ; var i int ; for ( i < 24 ) { p = new P ; p . v = i ; i = ( i + 1 ) ; } print p . v ; }"
	// A half of 8 has room for two, of 9 for three, and so on; nothing is kept while one is made, since nobody looks at the
	// old one again.
	for half, moves := range map[int]int{8: 11, 9: 7, 12: 5, 15: 4, 24: 2, 36: 1, 71: 1, 72: 0, 4000: 0} {
		r := runText(t, text, passesOf("d"), setupOf(half, 16))
		if r.Moves != moves || plainResult(r) != "exit: 23" {
			t.Errorf("with a half of %d: %s, want %d moves", half, resultText(r), moves)
		}
	}
	for half := impl.MinHalf; half < 80; half++ {
		if r := impl.RunText([]byte(text), passesOf("d"), setupOf(half, 16)); r.Moves != (24-1)/(half/3) {
			t.Errorf("with a half of %d: %s", half, resultText(r))
		}
	}
}

// TestLongLoopsOfTexts: a loop that takes an object each time and keeps one never runs out of memory, however often all is
// moved.
func TestLongLoopsOfTexts(t *testing.T) {
	t.Parallel()
	const heads = "type P struct { v int ; n * P ; } "
	for _, x := range []struct {
		body string
		half int
	}{
		{"p = new P ; p . v = i ;", 8},
		{"q = new P ; q . v = ( p . v + 1 ) ; p = q ;", 8},
		{"p . n = new P ; p . n . v = ( p . v + 1 ) ; p = p . n ;", 8},
		{"p . n = nil P ; q = new P ; q . n = p ; q . v = ( p . v + 1 ) ; p = q ;", 9},
		{"l = make [ ] * P ( 3 ) ; l [ 1 ] = p ; p = new P ; p . v = ( l [ 1 ] . v + 1 ) ;", 11},
		{"p = next ( p ) ;", 8},
	} {
		text := heads + "func next ( p * P ) * P { var q * P ; q = new P ; q . v = ( p . v + 1 ) ; return q ; } func main ( ) { var p * P ; var q * P ; var l [ ] * P ; var i int ; p = new P ; for ( i < 4000 ) { " + x.body + " i = ( i + 1 ) ; } print ( p . v / 3000 ) ; }"
		for _, passes := range [][]int{nil, passesOf("fcsd"), passesOf("dd")} {
			for _, oracle := range [][]int{nil, slices.Repeat([]int{1}, 2000), slices.Repeat([]int{2}, 2000), slices.Repeat([]int{1, 2, 0}, 600)} {
				r := impl.RunText([]byte(text), passes, impl.Setup{Half: x.half, Stack: 16, Fuel: impl.MaxFuel, Oracle: oracle})
				if plainResult(r) != "exit: 1" || r.Moves < 1300 {
					t.Errorf("%s\nbehind %v, with an oracle of %d: %s", x.body, passes, len(oracle), resultText(r))
				}
			}
		}
	}
	// One that keeps all it takes does run out of it, whatever the room is.
	text := heads + "func main ( ) { var p * P ; var q * P ; var i int ; for 1 { q = new P ; q . n = p ; p = q ; i = ( i + 1 ) ; print i ; } }"
	for _, half := range []int{8, 9, 100, 3999, 4000} {
		r := runText(t, text, nil, impl.Setup{Half: half, Stack: 16, Fuel: impl.MaxFuel})
		if r.End != impl.EndMemory || len(r.Out) != half/3 || r.Moves != 1 {
			t.Errorf("with a half of %d: %s, %d items, %d moves", half, endText(r.End, r.Code), len(r.Out), r.Moves)
		}
	}
}

// TestGrowingStacksOfTexts: calls within calls make the stack grow, and too many are told.
func TestGrowingStacksOfTexts(t *testing.T) {
	t.Parallel()
	text := "func down ( n int , m int ) int { if n { return ( down ( ( n - 1 ) , ( m + n ) ) + 1 ) ; } else { return m ; } } func main ( ) { print down ( read , 5 ) ; }"
	for depth, want := range map[int]string{0: "exit: 5", 1: "exit: 7", 5: "exit: 25", 57: "exit: 1715", 58: "exit: 1774", 59: "deep:", 60: "deep:", 5000: "deep:", -1: "deep:"} {
		wantRun(t, text, []int{depth}, want)
		last := impl.Result{Copies: 100}
		for _, stack := range []int{16, 17, 18, 20, 31, 32, 33, 64, 100, 128, 500, 1000, 1999, 2000} {
			r := runText(t, text, passesOf("fcsd"), impl.Setup{Half: 8, Stack: stack, Fuel: 5000, Input: []int{depth}})
			if plainResult(r) != want || r.Copies > last.Copies+1 {
				t.Errorf("%d deep, with a stack of %d: %s, want %s", depth, stack, resultText(r), want)
			}
			last = r
		}
		if last.Copies != 0 || last.Moves != 0 {
			t.Errorf("with the greatest stack: %s", resultText(last))
		}
		r := runText(t, text, nil, impl.Setup{Half: 8, Stack: 16, Fuel: 5000, Input: []int{depth}})
		if depth != 0 && r.Copies == 0 {
			t.Errorf("%d deep, with the least stack: %s", depth, resultText(r))
		}
	}
	// Frames that are too great for so many of them: the stack ends, not the calls.
	vars, names := declarations("v", 100)
	great := "func g ( d int ) { " + vars + "print d ; if d { do g ( ( d - 1 ) ) ; } else { } print " + strings.Join(names, " ; print ") + " ; } func main ( ) { do g ( read ) ; }"
	ends := map[string]int{}
	for depth := range 62 {
		o := impl.Eval(wellTyped(t, great), []int{depth}, impl.MaxFuel)
		for _, stack := range []int{16, 100, 300, 1000, 1500, 2000} {
			s := impl.Setup{Half: 8, Stack: stack, Fuel: 60000, Input: []int{depth}}
			r := impl.RunText([]byte(great), nil, s)
			wantMeans(t, great, nil, s, o, r)
			ends[endText(r.End, r.Code)]++
		}
	}
	t.Log(ends)
	if ends["exit"] == 0 || ends["memory"] == 0 {
		t.Error(ends)
	}
}
