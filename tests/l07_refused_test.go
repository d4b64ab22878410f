package tests

import (
	"fmt"
	"strings"
	"testing"

	"loop.example/g00306/impl"
)

// wantNotLowered fails unless the answer is the zero value and false.
func wantNotLowered(t *testing.T, what string, s impl.Source) {
	t.Helper()
	if u, ok := lower(t, s); ok {
		t.Errorf("%s: lowered to\n%s", what, unitText(u))
	}
}

func TestLowerOfSourcesWithoutTypes(t *testing.T) {
	wantNotLowered(t, "the zero source", impl.Source{})
	for _, text := range []string{typedText, readsAll, "func main ( ) { print 1 ; }", "func main ( ) { var a int ; var b int ; }", "func f ( ) { } func main ( ) { do main ( ) ; }", "func main ( ) { for 0 { } }", "func main ( ) { panic 1 ; }"} {
		wantNotLowered(t, text, sourceOf(t, text))
		if _, ok := lower(t, wellTyped(t, text)); !ok {
			t.Errorf("%s is refused with its types", text)
		}
	}
	// Where Check has nothing to put in, the source is told already.
	for _, text := range []string{"func main ( ) { }", "func main ( ) { return ; }", "func main ( ) { var a int ; }", "func main ( ) { do main ( ) ; }"} {
		if _, ok := lower(t, sourceOf(t, text)); !ok {
			t.Errorf("%s is refused", text)
		}
	}
	// None of these is well, with whatever types.
	for _, text := range []string{
		"", "func f ( ) { }", "func main ( ) int { return 1 ; }", "func main ( ) { print x ; }", "func main ( ) { return ; return ; }", "func f ( ) int { } func main ( ) { }", "func main ( ) { print f ( ) ; }",
		"func f ( ) { } func main ( ) { print f ( ) ; }", "func main ( ) { print ( 1 + 0f0000000000000000 ) ; }", "func main ( ) { return 1 ; }", "func main ( ) { } func main ( ) { }", "func main ( a int ) { }",
	} {
		wantNotLowered(t, text, sourceOf(t, text))
	}
}

// TestLowerOfOneThingTurned turns each type and each number that Check told.
func TestLowerOfOneThingTurned(t *testing.T) {
	s := wellTyped(t, typedText)
	turned := 0
	want := func(what string, part any) {
		t.Helper()
		turned++
		if u, ok := impl.Lower(s); ok || unitText(u) != "main 0" {
			t.Errorf("%s of %+v is turned: %v, %s", what, part, ok, unitText(u))
		}
	}
	eachPart(s, func(p *impl.Stmt) {
		was := *p
		for _, n := range []int{was.N - 1, was.N + 1, was.N + 7} {
			p.N = n
			want("the number", *p)
		}
		*p = was
	}, func(e *impl.Expr) {
		was := *e
		for _, ty := range otherTypes(was.Ty) {
			e.Ty = ty
			want("the type", *e)
		}
		*e = was
		if !hasOwnNumber(e.Kind) {
			for _, n := range []int{was.N - 1, was.N + 1, was.N + 7} {
				e.N = n
				want("the number", *e)
			}
		}
		*e = was
	})
	if _, ok := impl.Lower(s); !ok || turned < 1000 {
		t.Errorf("%d were turned; as it was: %v", turned, ok)
	}
	// What has become another source that is well is lowered as that.
	sum := &s.Funcs[0].Body[3].Kids[0]
	sum.N = impl.BiDiv
	if u, ok := lower(t, s); !ok || !strings.Contains(unitText(u), "fdiv") {
		t.Error("another op is refused")
	}
	sum.N = impl.BiRem
	wantNotLowered(t, "an op that floats have not", s)
	sum.N = impl.BiSame + 1
	wantNotLowered(t, "no op", s)
}

// TestLowerOfTreesThatHoldThemselves: those are refused, and all calls end.
func TestLowerOfTreesThatHoldThemselves(t *testing.T) {
	kids := make([]impl.Expr, 2)
	kids[0] = ofTy(num(1), tyInt())
	kids[1] = impl.Expr{Kind: impl.ExBin, Ty: tyInt(), Kids: kids}
	block := make([]impl.Stmt, 1)
	block[0] = impl.Stmt{Kind: impl.StFor, Kids: []impl.Expr{ofTy(num(1), tyInt())}, Body: block}
	both := make([]impl.Stmt, 1)
	both[0] = impl.Stmt{Kind: impl.StIf, Kids: []impl.Expr{ofTy(num(1), tyInt())}, Body: both, Else: both}
	for i, body := range [][]impl.Stmt{{plain(impl.StPrint, kids[1])}, block, both} {
		if u, ok := impl.Lower(mainOf(body...)); ok || unitText(u) != "main 0" {
			t.Errorf("tree %d is lowered", i)
		}
	}
}

// manyBlocks are statements that come to just so many blocks in a function. An if or a loop has 3, one that is not open
// behind it has 2.
func manyBlocks(blocks int, parts ...string) string {
	const ended = "if 1 { if 1 { return ; } else { return ; } } else { }"
	left := blocks - 1
	var list []string
	for left%3 != 0 {
		list = append(list, ended)
		left -= 5
	}
	for n := range left / 3 {
		list = append(list, parts[n%len(parts)])
	}
	return strings.Join(list, " ")
}

func TestBlocksAtTheirLimit(t *testing.T) {
	for _, parts := range [][]string{{"if 1 { } else { }"}, {"for 0 { }"}, {"if 0 { return ; } else { }", "for 0 { }", "if 1 { } else { }", "for 0 { return ; }"}} {
		for _, blocks := range []int{impl.MaxBlocks - 2, impl.MaxBlocks - 1, impl.MaxBlocks, impl.MaxBlocks + 1, impl.MaxBlocks + 2, impl.MaxBlocks + 3} {
			stmts := manyBlocks(blocks, parts...)
			for at, text := range []string{
				"func main ( ) { " + stmts + " } func a ( ) { } func b ( ) { }",
				"func a ( ) { } func main ( ) { " + stmts + " } func b ( ) { }",
				"func a ( ) { } func b ( ) { } func main ( ) { " + stmts + " }",
				"func a ( ) { " + stmts + " } func b ( ) { } func main ( ) { do a ( ) ; }",
				"func a ( ) { } func main ( ) { } func b ( ) { " + stmts + " }",
				"func main ( ) { } func a ( ) { " + stmts + " } func b ( ) { }",
			} {
				wantFewEnough(t, fmt.Sprint(parts[0], ", ", blocks, " blocks, ", at), text, blocks)
			}
		}
	}
	// Each function is counted by itself.
	half := manyBlocks(250, "if 1 { } else { }")
	u := loweredText(t, "func a ( ) { "+half+" } func main ( ) { do a ( ) ; "+half+" }")
	if len(u.Fns[0].Blocks) != 250 || len(u.Fns[1].Blocks) != 250 {
		t.Errorf("%d and %d blocks", len(u.Fns[0].Blocks), len(u.Fns[1].Blocks))
	}
}

// wantFewEnough fails unless a source is lowered just where its greatest function has no more than MaxBlocks blocks.
func wantFewEnough(t *testing.T, what string, text string, blocks int) {
	t.Helper()
	s := wellTyped(t, text)
	u, ok := impl.Lower(s)
	if ok != (blocks <= impl.MaxBlocks) {
		t.Errorf("%s: %v", what, ok)
	}
	most := 0
	for _, f := range u.Fns {
		most = max(most, len(f.Blocks))
	}
	if ok && most != blocks {
		t.Errorf("%s: %d blocks", what, most)
	}
	if !ok && unitText(u) != "main 0" {
		t.Errorf("%s: refused, with a unit", what)
	}
}

// TestManyValues: a function of as many values as a source's parts can come to. MaxVals is never met: a StSet, of three
// parts, brings a parameter to each of the at most 28 ifs and loops around it, and each of these no more than one for each
// variable; of 400 parts that makes no more than 2650 values.
func TestManyValues(t *testing.T) {
	const deep, vars = 28, 83
	for _, x := range [][2]string{{"if 1 { ", "} else { } "}, {"if 1 { } else { ", "} "}, {"for 1 { ", "} "}} {
		var text strings.Builder
		text.WriteString("func f ( a int , b int , c int , d int ) { ")
		for n := range vars {
			fmt.Fprintf(&text, "var v%d int ; ", n)
		}
		text.WriteString(strings.Repeat(x[0], deep))
		for n := range vars {
			fmt.Fprintf(&text, "v%d = 1 ; ", n)
		}
		text.WriteString("d = 1 ; c = 1 ; b = 1 ; a = 1 ; " + strings.Repeat(x[1], deep) + "} func main ( ) { }")
		s := wellTyped(t, text.String())
		u, ok := lower(t, s)
		if !ok || impl.Nodes(bared(s)) != impl.MaxNodes {
			t.Fatalf("%v, with %d parts", ok, impl.Nodes(bared(s)))
		}
		want := 4 + vars + deep + (vars + 4) + deep*(vars+4)
		if f := u.Fns[0]; len(f.Vals) != want || len(f.Blocks) != 1+3*deep || want > impl.MaxVals {
			t.Errorf("%d values, %d blocks, want %d", len(f.Vals), len(f.Blocks), want)
		}
		if o := runUnit(t, u, nil, 10); o.End != impl.EndExit {
			t.Error(outcomeText(o))
		}
	}
}
