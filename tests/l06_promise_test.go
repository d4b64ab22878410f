package tests

import (
	"slices"
	"testing"

	"loop.example/g00306/impl"
)

// wantUnitGoesOn fails unless, with more fuel, what was put out goes on, and what had ended ends alike.
func wantUnitGoesOn(t *testing.T, u impl.Unit, input []int, fuels []int) {
	t.Helper()
	last := impl.Outcome{End: impl.EndFuel}
	for _, fuel := range fuels {
		o := impl.RunUnit(u, input, fuel)
		if len(o.Out) < len(last.Out) || !slices.Equal(o.Out[:len(last.Out)], last.Out) {
			t.Fatalf("fuel %d: %s\nwith less: %s", fuel, outcomeText(o), outcomeText(last))
		}
		if last.End != impl.EndFuel && !sameOutcome(o, last) {
			t.Fatalf("fuel %d: %s\nit had ended: %s", fuel, outcomeText(o), outcomeText(last))
		}
		if o.End == impl.EndFuel && o.Steps != fuel || o.Steps < last.Steps || o.End == impl.EndRefused {
			t.Fatalf("fuel %d: %s\nwith less: %s", fuel, outcomeText(o), outcomeText(last))
		}
		last = o
	}
}

// TestManyUnitsGoOn is the promise, of units of all sorts that are well.
func TestManyUnitsGoOn(t *testing.T) {
	numbers := spread(40000)
	ends, steps, items := map[string]int{}, 0, 0
	for round := range 700 {
		u := newUnitMaker(numbers, round*67).unit()
		wantUnit(t, showUnit(u), u, true)
		input := promiseInput(numbers, round)
		o := runUnit(t, u, input, 3000)
		ends[endKind(o)]++
		steps, items = steps+o.Steps, items+len(o.Out)
		wantUnitGoesOn(t, u, input, promiseFuels(o.Steps))
		if round%4 == 0 {
			runWhole(t, u, input)
		}
	}
	t.Logf("%d steps, %d items, %v", steps, items, ends)
	for _, end := range []string{"exit", "panic", "trap nil", "trap index", "trap make", "trap zero", "fuel", "deep", "stuck"} {
		if ends[end] == 0 {
			t.Errorf("none ends with %s: %v", end, ends)
		}
	}
}

// TestUnitsWithOneThingTurned: whatever number or list is another, both ways agree whether it is a unit; where it is,
// it is done as the model does it, and with more fuel it goes on.
func TestUnitsWithOneThingTurned(t *testing.T) {
	numbers := spread(60000)
	m := newMaker(numbers, 11)
	well, refused := 0, 0
	for round := range 400 {
		u := newUnitMaker(numbers, round*71+5).unit()
		for range 15 {
			turned := turnOne(m, u)
			fault := faultOf(turned)
			if unitOk(t, turned) != (fault == "") {
				t.Fatalf("%s\nthe second way finds %q", showUnit(turned), fault)
			}
			input := promiseInput(numbers, round)
			if fault != "" {
				refused++
				if o := impl.RunUnit(turned, input, 100); !sameOutcome(o, impl.Outcome{}) {
					t.Fatalf("%s\n%s, but it is done: %s", showUnit(turned), fault, outcomeText(o))
				}
				continue
			}
			well++
			if o := runUnit(t, turned, input, 2000); well%8 == 0 {
				wantUnitGoesOn(t, turned, input, promiseFuels(o.Steps))
				runWhole(t, turned, input)
			}
		}
	}
	t.Logf("%d are well, %d are refused", well, refused)
	if well < 500 || refused < 3000 {
		t.Errorf("%d are well, %d are refused", well, refused)
	}
}

// TestUnitsWithManyThingsTurned: however far it is from a unit, it is answered.
func TestUnitsWithManyThingsTurned(t *testing.T) {
	numbers := spread(50000)
	m := newMaker(numbers, 3)
	for round := range 200 {
		u := newUnitMaker(numbers, round*73+9).unit()
		for range 12 {
			u = turnOne(m, u)
			if ok := unitOk(t, u); ok != (faultOf(u) == "") {
				t.Fatalf("%s\n%v, but the second way finds %q", showUnit(u), ok, faultOf(u))
			}
			for _, f := range u.Fns {
				if got, want := doms(t, f), secondDoms(f); !slices.Equal(got, want) {
					t.Fatalf("%v of %+v, want %v", got, f.Blocks, want)
				}
			}
		}
	}
}

// TestEndlessUnitsGoOn: what never ends puts out ever more.
func TestEndlessUnitsGoOn(t *testing.T) {
	for _, text := range []string{
		"fn main; jump a; a :; jump a",
		"fn main; z = int 0; one = int 1; jump a z; a n:int :; print n; m = add n one; jump a m",
		"fn f x:float > float; print x; y = fmul x x; return y; fn main; x = float 2; jump a x; a y:float :; z = call f y; jump a z",
		"struct int *0; fn main; n = nil *0; jump a n; a p:*0 :; q = new 0; store 1 q p; r = load 1 q; s = same r n; print s; jump a q",
		"fn main; k = int 100; at = int 99; jump a; a :; l = make []int k; x = read; put l at x; y = get l at; print y; jump a",
		"fn main; a = int 1; b = int 2; jump h a b; h x:int y:int :; print x; jump h y x",
	} {
		u := unitOf(text)
		wantUnitGoesOn(t, u, []int{1, 2, 3}, []int{0, 1, 2, 3, 5, 10, 11, 12, 13, 14, 15, 100, 200, 5000, 10000, impl.MaxFuel / 2, impl.MaxFuel - 1, impl.MaxFuel})
		if o := runWhole(t, u, []int{1, 2, 3}); o.End != impl.EndFuel || o.Steps != impl.MaxFuel {
			t.Errorf("%s: %d in %d", text, o.End, o.Steps)
		}
	}
}

// TestOneMoreAndTwiceOfUnits: from each fuel to one more, to twice as much, and to all there may be, for each end.
func TestOneMoreAndTwiceOfUnits(t *testing.T) {
	heads := "struct int; fn f n:int > int; print n; one = int 1; if n a b; a :; m = sub n one; r = call f m; s = mul n r; return s; b :; return one; fn main; x = int 4; y = call f x; print y; "
	for _, x := range [][2]string{
		{"return", "exit in 36: 4 3 2 1 0 24"},
		{"panic y", "panic 24 in 36: 4 3 2 1 0 24"},
		{"z = read; zerocheck z; return", "trap zero in 37: 4 3 2 1 0 24"},
		{"p = nil *0; nilcheck p; return", "trap nil in 37: 4 3 2 1 0 24"},
		{"l = nil []int; indexcheck l x; return", "trap index in 37: 4 3 2 1 0 24"},
		{"z = int -1; makecheck z; return", "trap make in 37: 4 3 2 1 0 24"},
		{"z = read; w = div x z; return", "stuck in 37: 4 3 2 1 0 24"},
		{"z = int 70; w = call f z; return", "deep in 332: 4 3 2 1 0 24 70 69 68 67 66 65 64 63 62 61 60 59 58 57 56 55 54 53 52 51 50 49 48 47 46 45 44 43 42 41 40 39 38 37 36 35 34 33 32 31 30 29 28 27 26 25 24 23 22 21 20 19 18 17 16 15 14 13 12"},
	} {
		u := unitOf(heads + x[0])
		whole := runWhole(t, u, nil)
		if outcomeText(whole) != x[1] {
			t.Errorf("%s: %s, want %s", x[0], outcomeText(whole), x[1])
		}
		for fuel := range min(whole.Steps, 90) + 5 {
			wantUnitGoesOn(t, u, nil, []int{fuel, fuel + 1, 2*fuel + 1, impl.MaxFuel})
		}
	}
}
