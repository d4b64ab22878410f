package tests

import (
	"strings"
	"testing"

	"loop.example/g00306/impl"
)

// tally counts how the sources that were made, and their units, ended.
type tally struct {
	taken, steps, items, params int
	ends                        map[string]int
}

// add holds what Lower tells of a source that is well against the promise.
func (c *tally) add(t *testing.T, s impl.Source, input []int) {
	t.Helper()
	u, ok := lower(t, s)
	if !ok {
		t.Fatalf("not lowered: %s", show(s))
	}
	want, got := wantAlike(t, s, u, input)
	c.taken++
	c.steps, c.items = c.steps+want.Steps, c.items+len(want.Out)
	if want.End == impl.EndFuel || got.End == impl.EndFuel {
		c.ends["fuel"]++
	} else {
		c.ends[endKind(want)]++
	}
	for _, f := range u.Fns {
		for _, b := range f.Blocks[1:] {
			c.params += len(b.Params)
		}
	}
}

func (c *tally) want(t *testing.T, least int, ends ...string) {
	t.Helper()
	t.Logf("%d sources, %d steps, %d items, %d parameters, %v", c.taken, c.steps, c.items, c.params, c.ends)
	if c.taken < least {
		t.Errorf("only %d sources", c.taken)
	}
	for _, end := range ends {
		if c.ends[end] == 0 {
			t.Errorf("none ends with %s: %v", end, c.ends)
		}
	}
}

// TestManySourcesAreLowered is the promise, of sources of all kinds of parts that are well.
func TestManySourcesAreLowered(t *testing.T) {
	numbers := spread(60000)
	c := tally{ends: map[string]int{}}
	for round := range 700 {
		s := newTypedMaker(numbers, round*59+7).typedSource()
		if !impl.TypedOk(s) {
			wantNotLowered(t, "no source", s)
			continue
		}
		c.add(t, s, promiseInput(numbers, round))
	}
	c.want(t, 500, "exit", "panic", "trap nil", "trap index", "trap make", "trap zero", "deep")
}

// TestWaysAreLowered is the promise, of sources that set variables all over ifs and loops.
func TestWaysAreLowered(t *testing.T) {
	numbers := spread(60000)
	c := tally{ends: map[string]int{}}
	for round := range 500 {
		text := newWayMaker(numbers, round*89+3).source()
		parsed, code, at := impl.Parse([]byte(text))
		if code == impl.ParseLong {
			continue
		}
		s, told := impl.Check(parsed)
		if code != impl.ParseWell || told != impl.TypeWell {
			t.Fatalf("%d at %d, %d of %s", code, at, told, text)
		}
		c.add(t, s, promiseInput(numbers, round*5))
		c.add(t, s, nil)
	}
	c.want(t, 700, "exit", "panic", "trap nil", "trap index", "trap zero")
	if c.params < 5*c.taken || c.ends["exit"] < c.taken/4 {
		t.Errorf("%d parameters, %d exits of %d", c.params, c.ends["exit"], c.taken)
	}
}

// TestLivelySourcesAreLowered is the promise, of sources that do much before they end.
func TestLivelySourcesAreLowered(t *testing.T) {
	numbers := spread(40000)
	c := tally{ends: map[string]int{}}
	for round := range 250 {
		parsed, code, _ := impl.Parse([]byte(newLivelyMaker(numbers, round*97+1).source()))
		if code != impl.ParseWell {
			continue
		}
		if s, told := impl.Check(parsed); told == impl.TypeWell {
			c.add(t, s, promiseInput(numbers, round*3))
		}
	}
	c.want(t, 150, "exit", "trap index", "trap zero")
}

// TestTurnedSourcesAreNotLowered: whatever is another in a source with types, it is lowered just where it is TypedOk.
func TestTurnedSourcesAreNotLowered(t *testing.T) {
	numbers := spread(60000)
	m := newMaker(numbers, 17)
	refused, well := 0, 0
	for round := range 120 {
		s := newTypedMaker(numbers, round*61+9).typedSource()
		if !impl.TypedOk(s) {
			continue
		}
		for range 6 {
			turned := turnPart(m, s)
			if u, ok := lower(t, turned); ok {
				well++
				wantAlike(t, turned, u, nil)
			} else {
				refused++
			}
		}
	}
	if refused < 200 || well < 10 {
		t.Errorf("%d are refused, %d are well", refused, well)
	}
}

// turnPart is a copy of a source in which one number or one type of one part is another.
func turnPart(m *maker, s impl.Source) impl.Source {
	s = roomy(s)
	at, count := m.pick(max(1, countedParts(s))), 0
	turn := func(n *int, ty *impl.Ty) {
		if count == at {
			switch m.pick(4) {
			case 0:
				*ty = m.ty(1)
			case 1:
				*ty = impl.Ty{Kind: ty.Kind, N: ty.N + 1}
			default:
				*n += m.pick(5) - 2
			}
		}
		count++
	}
	eachPart(s, func(p *impl.Stmt) { turn(&p.N, &p.Ty) }, func(e *impl.Expr) { turn(&e.N, &e.Ty) })
	return s
}

// TestProgramsAreLowered: each end, with what was put out, of programs that do something.
func TestProgramsAreLowered(t *testing.T) {
	for _, x := range []struct {
		text  string
		input []int
		want  string
	}{
		{"func gcd ( a int , b int ) int { for b { var c int ; c = ( a % b ) ; a = b ; b = c ; } return a ; } func main ( ) { print gcd ( read , read ) ; }", []int{84, 36}, "exit: 12"},
		{"func fib ( n int ) int { if ( n < 2 ) { return n ; } else { return ( fib ( ( n - 1 ) ) + fib ( ( n - 2 ) ) ) ; } } func main ( ) { print fib ( read ) ; }", []int{11}, "exit: 89"},
		{"func fib ( n int ) int { var a int ; var b int ; b = 1 ; for n { var c int ; c = ( a + b ) ; a = b ; b = c ; n = ( n - 1 ) ; } return a ; } func main ( ) { print fib ( read ) ; }", []int{80}, "exit: 23416728348467685"},
		{"type N struct { v int ; n * N ; } func main ( ) { var p * N ; var r int ; r = read ; for r { var q * N ; q = new N ; q . v = r ; q . n = p ; p = q ; r = read ; } for 1 { print p . v ; p = p . n ; } }", []int{4, 5, 6}, "trap nil: 6 5 4"},
		{"func main ( ) { var l [ ] int ; l = make [ ] int ( read ) ; var i int ; for ( i < len ( l ) ) { l [ i ] = read ; i = ( i + 1 ) ; } var j int ; for ( j < len ( l ) ) { var k int ; for ( ( k + 1 ) < len ( l ) ) { if ( l [ ( k + 1 ) ] < l [ k ] ) { var x int ; x = l [ k ] ; l [ k ] = l [ ( k + 1 ) ] ; l [ ( k + 1 ) ] = x ; } else { } k = ( k + 1 ) ; } j = ( j + 1 ) ; } i = 0 ; for 1 { print l [ i ] ; i = ( i + 1 ) ; } }",
			[]int{5, 9, 2, 7, -1, 3}, "trap index: -1 2 3 7 9"},
		{"func main ( ) { var i int ; for 1 { if ( i == 3 ) { panic ( i * 7 ) ; } else { print i ; } i = ( i + 1 ) ; } }", nil, "panic 21: 0 1 2"},
		{"func main ( ) { var i int ; i = 3 ; for 1 { print ( 6 / i ) ; i = ( i - 1 ) ; } }", nil, "trap zero: 2 3 6"},
		{"func main ( ) { var i int ; i = 2 ; for 1 { print len ( make [ ] int ( i ) ) ; i = ( i - 1 ) ; } }", nil, "trap make: 2 1 0"},
		{"func f ( n int ) { if ( n == 3 ) { print n ; } else { } do f ( ( n + 1 ) ) ; } func main ( ) { do f ( 0 ) ; }", nil, "deep: 3"},
		{"func f ( x float , n int ) float { var r float ; r = 0f3ff0000000000000 ; for n { if ( n % 2 ) { r = ( r * x ) ; } else { } x = ( x * x ) ; n = ( n / 2 ) ; } return r ; } func main ( ) { print int ( f ( float ( 3 ) , 13 ) ) ; }", nil, "exit: 1594323"},
		{"func main ( ) { for read { print read ; } print read ; return ; }", []int{1, 5, 1, 6, 0, 7}, "exit: 5 6 7"},
	} {
		u := loweredText(t, x.text)
		if got := plainText(runWhole(t, u, x.input)); got != x.want {
			t.Errorf("%s\nwith %v: %s\nwant: %s", x.text, x.input, got, x.want)
		}
	}
}

// TestEndlessSourcesAreLowered: with whatever fuel, one puts out the beginning of what the other one does.
func TestEndlessSourcesAreLowered(t *testing.T) {
	for _, text := range []string{
		"func main ( ) { for 1 { } }",
		"func main ( ) { var i int ; for 1 { print i ; i = ( i + 1 ) ; } }",
		"func f ( x float ) float { print x ; return ( x * x ) ; } func main ( ) { var x float ; x = 0f4000000000000000 ; for 1 { x = f ( x ) ; } }",
		"type N struct { v int ; n * N ; } func main ( ) { var p * N ; for 1 { var q * N ; q = new N ; q . n = p ; p = q ; print ( p . n == nil N ) ; } }",
	} {
		s := wellTyped(t, text)
		u, _ := lower(t, s)
		want, got := wantAlike(t, s, u, nil)
		if want.End != impl.EndFuel || got.End != impl.EndFuel || strings.Contains(text, "print") && len(got.Out) < 1000 {
			t.Errorf("%s: %d, %d, %d items", text, want.End, got.End, len(got.Out))
		}
	}
}
