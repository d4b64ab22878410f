package tests

import (
	"slices"
	"testing"

	"loop.example/g00306/impl"
)

// promiseInput is read by the sources that were made; some ends among ordinary numbers.
func promiseInput(numbers []int, first int) []int {
	list := []int{3, 1, 2, 0, 5, -1, 7, 100, 1, -2, 101}
	var input []int
	for n := range 12 {
		input = append(input, list[within(numbers[(first+n)%len(numbers)]>>9, len(list))])
	}
	return input
}

// wantGoesOn fails unless, with more fuel, what was put out goes on, and what had ended ends alike.
func wantGoesOn(t *testing.T, s impl.Source, input []int, fuels []int) {
	t.Helper()
	last := impl.Outcome{End: impl.EndFuel}
	for _, fuel := range fuels {
		o := impl.Eval(s, input, fuel)
		if len(o.Out) < len(last.Out) || !slices.Equal(o.Out[:len(last.Out)], last.Out) {
			t.Fatalf("fuel %d: %s\nwith less: %s", fuel, outcomeText(o), outcomeText(last))
		}
		if last.End != impl.EndFuel && !sameOutcome(o, last) {
			t.Fatalf("fuel %d: %s\nit had ended: %s", fuel, outcomeText(o), outcomeText(last))
		}
		if o.End == impl.EndFuel && o.Steps != fuel || o.Steps < last.Steps {
			t.Fatalf("fuel %d: %s\nwith less: %s", fuel, outcomeText(o), outcomeText(last))
		}
		last = o
	}
}

// promiseFuels are all from 0 up to some behind the end where that is near; else some, with one more and twice.
func promiseFuels(steps int) []int {
	var fuels []int
	if steps <= 60 {
		for fuel := range steps + 3 {
			fuels = append(fuels, fuel)
		}
		return append(fuels, 2*steps+5, 10*steps+100, impl.MaxFuel)
	}
	for fuel := 0; fuel < steps; fuel += 1 + steps/9 {
		fuels = append(fuels, fuel, fuel+1)
	}
	fuels = append(fuels, steps-1, steps, steps+1, 2*steps, impl.MaxFuel)
	fuels = slices.DeleteFunc(fuels, func(fuel int) bool { return fuel > impl.MaxFuel })
	slices.Sort(fuels)
	return slices.Compact(fuels)
}

// TestManySourcesGoOn is the promise, of sources of all sorts that are well.
func TestManySourcesGoOn(t *testing.T) {
	numbers := spread(40000)
	ends := map[string]int{}
	for round := range 500 {
		s := newTypedMaker(numbers, round*61).typedSource()
		input := promiseInput(numbers, round)
		if !impl.TypedOk(s) {
			wantRefused(t, "no source", s, input, 100)
			continue
		}
		o := eval(t, s, input, 3000)
		ends[endKind(o)]++
		wantGoesOn(t, s, input, promiseFuels(o.Steps))
		run(t, s, input)
	}
	for _, end := range []string{"exit", "panic", "trap nil", "trap index", "trap make", "trap zero", "fuel", "deep"} {
		if ends[end] == 0 {
			t.Errorf("none ends with %s: %v", end, ends)
		}
	}
}

// endKind is how an outcome ended, without the code of a panic.
func endKind(o impl.Outcome) string {
	if o.End == impl.EndPanic {
		return "panic"
	}
	return endText(o.End, o.Code)
}

// TestLivelySourcesGoOn is the promise, of sources that do much before they end.
func TestLivelySourcesGoOn(t *testing.T) {
	numbers := spread(40000)
	taken, steps, items, ends := 0, 0, 0, map[string]int{}
	for round := range 250 {
		text := newLivelyMaker(numbers, round*83).source()
		parsed, code, at := impl.Parse([]byte(text))
		if code == impl.ParseLong {
			continue
		}
		s, told := impl.Check(parsed)
		if code != impl.ParseWell || told != impl.TypeWell {
			t.Fatalf("%d at %d, %d of %s", code, at, told, text)
		}
		taken++
		input := promiseInput(numbers, round*7)
		o := run(t, s, input)
		wantGoesOn(t, s, input, promiseFuels(o.Steps))
		steps, items = steps+o.Steps, items+len(o.Out)
		ends[endKind(o)]++
	}
	t.Logf("%d sources, %d steps, %d items, %v", taken, steps, items, ends)
	if taken < 150 || steps < 100*taken || items < 5*taken || ends["exit"] < taken/4 {
		t.Errorf("%d sources with %d steps and %d items, which end so: %v", taken, steps, items, ends)
	}
}

// TestLoopsGoOn: what never ends puts out ever more.
func TestLoopsGoOn(t *testing.T) {
	for _, text := range []string{
		"func main ( ) { for 1 { } }",
		"func main ( ) { var i int ; for 1 { print i ; i = ( i + 1 ) ; } }",
		"func f ( x float ) float { print x ; return ( x * x ) ; } func main ( ) { var x float ; x = 0f4000000000000000 ; for 1 { x = f ( x ) ; } }",
		"type N struct { v int ; n * N ; } func main ( ) { var p * N ; for 1 { var q * N ; q = new N ; q . n = p ; p = q ; print ( p . n == nil N ) ; } }",
		"func main ( ) { var l [ ] int ; for 1 { l = make [ ] int ( 100 ) ; l [ 99 ] = read ; print l [ 99 ] ; } }",
	} {
		s := wellTyped(t, text)
		wantGoesOn(t, s, []int{1, 2, 3}, []int{0, 1, 2, 3, 5, 10, 11, 12, 13, 14, 15, 100, 200, 5000, 10000, impl.MaxFuel / 2, impl.MaxFuel - 1, impl.MaxFuel})
		if o := run(t, s, []int{1, 2, 3}); o.End != impl.EndFuel || o.Steps != impl.MaxFuel {
			t.Errorf("%s: %d in %d", text, o.End, o.Steps)
		}
	}
}

// TestOneMoreAndTwice: from each fuel to one more and to twice as much, of one source.
func TestOneMoreAndTwice(t *testing.T) {
	s := wellTyped(t, "func f ( n int ) int { print n ; if ( n < 1 ) { return 1 ; } else { return ( n * f ( ( n - 1 ) ) ) ; } } func main ( ) { print f ( 5 ) ; print ( 1 / read ) ; }")
	whole := run(t, s, nil)
	if outcomeText(whole) != "trap zero in 80: 5 4 3 2 1 0 120" {
		t.Fatal(outcomeText(whole))
	}
	for fuel := range whole.Steps + 5 {
		wantGoesOn(t, s, nil, []int{fuel, fuel + 1, 2*fuel + 1, impl.MaxFuel})
	}
}
