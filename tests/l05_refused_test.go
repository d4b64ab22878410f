package tests

import (
	"math"
	"slices"
	"testing"

	"loop.example/g00306/impl"
)

// wantRefused fails unless the answer is the zero value.
func wantRefused(t *testing.T, what string, s impl.Source, input []int, fuel int) {
	t.Helper()
	if o := eval(t, s, input, fuel); !sameOutcome(o, impl.Outcome{}) {
		t.Errorf("%s: %s", what, outcomeText(o))
	}
}

// readsAll puts out what it reads, so often as main's first number says.
const readsAll = "func main ( ) { var n int ; n = read ; for n { print read ; n = ( n - 1 ) ; } }"

func TestInputAtItsLimit(t *testing.T) {
	s := wellTyped(t, readsAll)
	input := []int{impl.MaxInput - 1}
	for n := range impl.MaxInput - 1 {
		input = append(input, n*n-50)
	}
	o := run(t, s, input)
	if o.End != impl.EndExit || len(o.Out) != impl.MaxInput-1 {
		t.Fatalf("%d numbers: %s", len(input), outcomeText(o))
	}
	for i, item := range o.Out {
		if item != (impl.Item{N: input[i+1]}) {
			t.Errorf("number %d: %v", i, item)
		}
	}
	wantRefused(t, "one number more", s, append(slices.Clone(input), 0), impl.MaxFuel)
	wantRefused(t, "many numbers more", s, make([]int, 5000), impl.MaxFuel)
	wantRefused(t, "one number more, no fuel", s, append(slices.Clone(input), 0), 0)
	// It counts too where nothing is read.
	still := wellTyped(t, "func main ( ) { }")
	wantRefused(t, "one number more, not read", still, make([]int, impl.MaxInput+1), 5)
	if o := eval(t, still, make([]int, impl.MaxInput), 5); o.End != impl.EndExit {
		t.Errorf("%d numbers, not read: %s", impl.MaxInput, outcomeText(o))
	}
}

// TestRoomBehindInput is not read.
func TestRoomBehindInput(t *testing.T) {
	s := wellTyped(t, "func main ( ) { print read ; print read ; print read ; }")
	input := []int{1, 2, 3, 4}
	if o := impl.Eval(s, input[:2], 100); plainText(o) != "exit: 1 2 0" {
		t.Error(plainText(o))
	}
	if o := impl.Eval(s, make([]int, 5, 3000)[:1], 100); plainText(o) != "exit: 0 0 0" {
		t.Error(plainText(o))
	}
}

func TestFuelAtItsLimits(t *testing.T) {
	for _, text := range []string{"func main ( ) { }", "func main ( ) { print 1 ; }", "func main ( ) { for 1 { } }", "func main ( ) { panic 3 ; }"} {
		s := wellTyped(t, text)
		for _, fuel := range []int{-1, -2, math.MinInt, impl.MaxFuel + 1, impl.MaxFuel + 2, math.MaxInt} {
			wantRefused(t, text, s, nil, fuel)
		}
		for _, fuel := range []int{0, 1, impl.MaxFuel - 1, impl.MaxFuel} {
			if o := eval(t, s, nil, fuel); o.End == impl.EndRefused {
				t.Errorf("%s is refused with fuel %d", text, fuel)
			}
		}
	}
	endless := wellTyped(t, "func main ( ) { for 1 { } }")
	for _, fuel := range []int{0, 1, 2, 77, impl.MaxFuel - 1, impl.MaxFuel} {
		if o := eval(t, endless, nil, fuel); !sameOutcome(o, impl.Outcome{End: impl.EndFuel, Steps: fuel}) {
			t.Errorf("with fuel %d: %s", fuel, outcomeText(o))
		}
	}
}

func TestSourcesWithoutTypes(t *testing.T) {
	wantRefused(t, "the zero source", impl.Source{}, nil, 100)
	wantRefused(t, "the zero source, no fuel", impl.Source{}, nil, 0)
	for _, text := range []string{typedText, readsAll, "func main ( ) { print 1 ; }", "func main ( ) { var a int ; var b int ; }", "func f ( ) { } func main ( ) { do main ( ) ; }", "func main ( ) { for 0 { } }", "func main ( ) { panic 1 ; }"} {
		wantRefused(t, text, sourceOf(t, text), []int{1}, 100)
		if o := eval(t, wellTyped(t, text), []int{1}, 100); o.End == impl.EndRefused {
			t.Errorf("%s is refused with its types", text)
		}
	}
	// Where Check has nothing to put in, the source is told already.
	for _, text := range []string{"func main ( ) { }", "func main ( ) { return ; }", "func main ( ) { var a int ; }", "func main ( ) { do main ( ) ; }"} {
		if o := eval(t, sourceOf(t, text), nil, 1000); o.End == impl.EndRefused {
			t.Errorf("%s is refused", text)
		}
	}
	for _, text := range []string{
		"", "func f ( ) { }", "func main ( ) int { return 1 ; }", "func main ( ) { print x ; }", "func main ( ) { return ; return ; }", "func f ( ) int { } func main ( ) { }", "func main ( ) { print nil1 ( ) ; }",
		"func f ( ) { } func main ( ) { print f ( ) ; }", "func main ( ) { print ( 1 + 0f0000000000000000 ) ; }", "func main ( ) { return 1 ; }",
	} {
		wantRefused(t, text, sourceOf(t, text), nil, 100)
	}
}

// TestOneThingTurnedIsRefused turns each type and each number that Check told.
func TestOneThingTurnedIsRefused(t *testing.T) {
	s := wellTyped(t, typedText)
	turned := 0
	want := func(what string) {
		t.Helper()
		turned++
		if o := impl.Eval(s, []int{1}, 100); !sameOutcome(o, impl.Outcome{}) {
			t.Errorf("%s: %s", what, outcomeText(o))
		}
	}
	eachPart(s, func(p *impl.Stmt) {
		for _, n := range []int{p.N - 1, p.N + 1} {
			was := p.N
			p.N = n
			want("the number of a statement")
			p.N = was
		}
	}, func(e *impl.Expr) {
		was := *e
		for _, ty := range []impl.Ty{{}, tyInt(), tyFloat(), tyPtr(0), tyPtr(1), tyPtr(2), tyInts(), {Kind: 7}, {Kind: -1}} {
			if e.Ty = ty; ty != was.Ty {
				want("the type of an expression")
			}
		}
		*e = was
		if !hasOwnNumber(e.Kind) {
			e.N = was.N + 1
			want("the number of an expression")
			e.N = was.N - 1
			want("the number of an expression")
		}
		*e = was
	})
	if o := impl.Eval(s, []int{1}, 100); o.End != impl.EndTrap || turned < 300 {
		t.Errorf("%d were turned; as it was: %s", turned, outcomeText(o))
	}
}

// TestEvalOfTreesThatHoldThemselves: those are refused, and all calls end.
func TestEvalOfTreesThatHoldThemselves(t *testing.T) {
	kids := make([]impl.Expr, 2)
	kids[0] = ofTy(num(1), tyInt())
	kids[1] = impl.Expr{Kind: impl.ExBin, Ty: tyInt(), Kids: kids}
	block := make([]impl.Stmt, 1)
	block[0] = impl.Stmt{Kind: impl.StFor, Kids: []impl.Expr{ofTy(num(1), tyInt())}, Body: block}
	for i, body := range [][]impl.Stmt{{plain(impl.StPrint, kids[1])}, block} {
		if o := impl.Eval(mainOf(body...), nil, 100); !sameOutcome(o, impl.Outcome{}) {
			t.Errorf("tree %d: %s", i, outcomeText(o))
		}
	}
}

// TestEvalOfSharedLists: a source may hold one list in two places.
func TestEvalOfSharedLists(t *testing.T) {
	kids := []impl.Expr{ofTy(num(1), tyInt()), ofTy(num(2), tyInt())}
	sum := ofTy(bin(impl.BiAdd, kids[0], kids[1]), tyInt())
	sum.Kids = kids
	body := []impl.Stmt{plain(impl.StPrint, sum)}
	s := mainOf(choose(sum, body, body), choose(ofTy(num(0), tyInt()), body, body))
	if o := run(t, s, nil); outcomeText(o) != "exit in 14: 3 3" {
		t.Error(outcomeText(o))
	}
}
