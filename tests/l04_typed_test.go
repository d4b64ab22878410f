package tests

import (
	"fmt"
	"strings"
	"testing"

	"loop.example/g00306/impl"
)

// typed is an expression as Check tells it.
func typed(e impl.Expr, ty impl.Ty, n int) impl.Expr {
	e.Ty, e.N = ty, n
	return e
}

// declared is a StVar as Check tells it.
func declared(name string, ty impl.Ty, n int) impl.Stmt {
	s := declare(name, ty)
	s.N = n
	return s
}

// ofTy is an expression that Check gives a type alone.
func ofTy(e impl.Expr, ty impl.Ty) impl.Expr {
	return typed(e, ty, e.N)
}

const typedText = `type P struct { a int ; b [ ] float ; } type Q struct { p * P ; ps [ ] * P ; a float ; }
func f ( p * P , k int ) float { var x float ; x = p . b [ k ] ; if ( x < 0f3ff0000000000000 ) { var y int ; y = k ; print y ; } else { var z * Q ; z = new Q ; z . ps = make [ ] * P ( len ( p . b ) ) ; z . ps [ 0 ] = z . p ; k = int ( z . a ) ; } return ( x + float ( p . a ) ) ; }
func none ( ) { }
func main ( ) { do f ( nil P , read ) ; do none ( ) ; for ( nil Q == nil Q ) { do main ( ) ; } return ; }`

// typedSource is typedText's source with its types, written out by hand.
func typedSource() impl.Source {
	p := func() impl.Expr { return typed(named("p"), tyPtr(0), 0) }
	k := func() impl.Expr { return typed(named("k"), tyInt(), 1) }
	x := func() impl.Expr { return typed(named("x"), tyFloat(), 2) }
	y := func() impl.Expr { return typed(named("y"), tyInt(), 3) }
	z := func() impl.Expr { return typed(named("z"), tyPtr(1), 4) }
	pb := func() impl.Expr { return typed(field(p(), "b"), tyFloats(), 1) }
	ps := func() impl.Expr { return typed(field(z(), "ps"), tyPtrs(0), 1) }
	null := func(n int) impl.Expr { return ofTy(null(n), tyPtr(n)) }
	return impl.Source{
		Structs: []impl.Struct{
			structure("P", param("a", tyInt()), param("b", tyFloats())),
			structure("Q", param("p", tyPtr(0)), param("ps", tyPtrs(0)), param("a", tyFloat())),
		},
		Funcs: []impl.Func{
			function("f", []impl.Param{param("p", tyPtr(0)), param("k", tyInt())}, tyFloat(),
				declared("x", tyFloat(), 2),
				set(x(), ofTy(index(pb(), k()), tyFloat())),
				choose(ofTy(bin(impl.BiLess, x(), ofTy(float(1), tyFloat())), tyInt()),
					[]impl.Stmt{declared("y", tyInt(), 3), set(y(), k()), plain(impl.StPrint, y())},
					[]impl.Stmt{
						declared("z", tyPtr(1), 4),
						set(z(), ofTy(fresh(1), tyPtr(1))),
						set(ps(), made(tyPtrs(0), ofTy(size(pb()), tyInt()))),
						set(ofTy(index(ps(), ofTy(num(0), tyInt())), tyPtr(0)), typed(field(z(), "p"), tyPtr(0), 0)),
						set(k(), ofTy(toInt(typed(field(z(), "a"), tyFloat(), 2)), tyInt())),
					}),
				plain(impl.StReturn, ofTy(bin(impl.BiAdd, x(), ofTy(toFloat(typed(field(p(), "a"), tyInt(), 0)), tyFloat())), tyFloat()))),
			function("none", nil, impl.Ty{}),
			function("main", nil, impl.Ty{},
				plain(impl.StDo, typed(call("f", null(0), ofTy(read(), tyInt())), tyFloat(), 0)),
				plain(impl.StDo, typed(call("none"), impl.Ty{}, 1)),
				loop(ofTy(bin(impl.BiSame, null(1), null(1)), tyInt()), plain(impl.StDo, typed(call("main"), impl.Ty{}, 2))),
				plain(impl.StReturn)),
		},
	}
}

func TestTypesByHand(t *testing.T) {
	told, code := check(t, sourceOf(t, typedText))
	if code != impl.TypeWell || !sameSource(told, typedSource()) {
		t.Errorf("%d: %s\nwant %s", code, show(told), show(typedSource()))
	}
	if !typedOk(t, typedSource()) || typedOk(t, bared(typedSource())) {
		t.Error("with its types it is TypedOk, without them it is not")
	}
	// What has types is no source any more.
	if _, code := check(t, typedSource()); code != impl.TypeForm {
		t.Errorf("with its types it is told %d", code)
	}
}

func TestNumbersOfVariables(t *testing.T) {
	for text, want := range map[string]string{
		"func f ( ) { } func main ( ) { }":                                                                                                                       "",
		"func f ( a int , b int ) { print b ; print a ; } func main ( ) { }":                                                                                     "b 1 a 0",
		"func f ( a int ) { var b int ; b = a ; var c int ; c = b ; a = c ; } func main ( ) { }":                                                                 "var b 1 b 1 a 0 var c 2 c 2 b 1 a 0 c 2",
		"func f ( ) { var a int ; for a { var b int ; b = a ; } var c int ; c = a ; } func main ( ) { }":                                                         "var a 0 a 0 var b 1 b 1 a 0 var c 2 c 2 a 0",
		"func f ( p int ) { if p { var a int ; print a ; } else { var b int ; print b ; } var c int ; print c ; } func main ( ) { }":                             "p 0 var a 1 a 1 var b 2 b 2 var c 3 c 3",
		"func f ( ) { if 1 { if 1 { var a int ; } else { var b int ; } var c int ; } else { var d int ; for d { var e int ; } } var g int ; } func main ( ) { }": "var a 0 var b 1 var c 2 var d 3 d 3 var e 4 var g 5",
		"func f ( z int , y int , x int , w int ) { for z { for y { var a int ; a = w ; } var b int ; b = x ; } var c int ; c = 1 ; } func main ( ) { }":         "z 0 y 1 var a 4 a 4 w 3 var b 5 b 5 x 2 var c 6 c 6",
		"func f ( main int ) { var f int ; f = main ; } func main ( ) { var a int ; a = 1 ; }":                                                                   "var f 1 f 1 main 0",
		"func f ( a float , b [ ] int ) { print ( b [ b [ 0 ] ] + int ( a ) ) ; var c int ; b [ c ] = len ( b ) ; } func main ( ) { }":                           "b 1 b 1 a 0 var c 2 b 1 c 2 b 1",
	} {
		told, code := check(t, sourceOf(t, text))
		if code != impl.TypeWell || numbersOf(told, 0) != want {
			t.Errorf("%d of %q: %s", code, text, numbersOf(told, 0))
		}
	}
	// Each function counts from 0 on.
	told, _ := check(t, sourceOf(t, "func f ( a int ) { var b int ; b = a ; } func main ( ) { var b int ; var a int ; b = a ; } func g ( b int ) { var a int ; print ( a + b ) ; }"))
	for at, want := range []string{"var b 1 b 1 a 0", "var b 0 var a 1 b 0 a 1", "var a 1 a 1 b 0"} {
		if got := numbersOf(told, at); got != want {
			t.Errorf("function %d: %s", at, got)
		}
	}
}

func TestNumbersOfFunctions(t *testing.T) {
	text := "func a ( ) { do d ( ) ; do main ( ) ; do a ( ) ; do b ( ) ; } func b ( ) int { return ( b ( ) + b ( ) ) ; } func main ( ) { for b ( ) { do d ( ) ; } } func d ( ) { do main ( ) ; do b ( ) ; }"
	told, code := check(t, sourceOf(t, text))
	var got []string
	eachPart(told, func(*impl.Stmt) {}, func(e *impl.Expr) {
		if e.Kind == impl.ExCall {
			got = append(got, string(e.Name)+string(rune('0'+e.N))+string(rune('0'+e.Ty.Kind)))
		}
	})
	if want := "d30 main20 a00 b11 b11 b11 b11 d30 main20 b11"; code != impl.TypeWell || strings.Join(got, " ") != want {
		t.Errorf("%d: %v", code, got)
	}
}

// TestNumbersThatStay: those that a source has itself are not touched.
func TestNumbersThatStay(t *testing.T) {
	const text = "type A struct { } type B struct { } func main ( ) { print ( -7 % 5 ) ; print 0f8000000000000000 ; print ( new B == nil B ) ; print ( 0f7ff8000000000001 < 0f0000000000000001 ) ; print len ( make [ ] * B ( 9 ) ) ; }"
	told, code := check(t, sourceOf(t, text))
	if code != impl.TypeWell {
		t.Fatal(code)
	}
	back, ok := impl.Print(bared(told))
	if again := sourceOf(t, string(back)); !ok || !sameSource(again, sourceOf(t, text)) {
		t.Errorf("%s", back)
	}
	nul := told.Funcs[0].Body[2].Kids[0].Kids
	if nul[0].N != 1 || nul[0].Ty != tyPtr(1) || nul[1].N != 1 || nul[1].Ty != tyPtr(1) {
		t.Errorf("%+v", nul)
	}
}

// otherTypes are all that are unlike one, and some that are none.
func otherTypes(ty impl.Ty) []impl.Ty {
	var list []impl.Ty
	for kind := -1; kind <= 7; kind++ {
		for n := -1; n <= 2; n++ {
			if other := (impl.Ty{Kind: kind, N: n}); other != ty {
				list = append(list, other)
			}
		}
	}
	return list
}

// hasOwnNumber tells whether a source says itself what N is.
func hasOwnNumber(kind int) bool {
	switch kind {
	case impl.ExInt, impl.ExFloat, impl.ExNil, impl.ExNew, impl.ExBin:
		return true
	}
	return false
}

// TestOneThingTurned turns each type and each number that Check told, or that is 0: it is not TypedOk any more.
func TestOneThingTurned(t *testing.T) {
	for _, text := range []string{typedText, "func main ( ) { var a int ; var b int ; }", "func f ( ) { } func main ( ) { do f ( ) ; }"} {
		s, code := check(t, sourceOf(t, text))
		if code != impl.TypeWell {
			t.Fatal(code)
		}
		turned := 0
		want := func(what string, p any) {
			turned++
			if impl.TypedOk(s) {
				t.Errorf("%s of %+v is turned, and it is TypedOk", what, p)
			}
		}
		eachPart(s, func(p *impl.Stmt) {
			for n := -1; n <= 6; n++ {
				if was := p.N; n != was {
					p.N = n
					want("the number", *p)
					p.N = was
				}
			}
			if was := p.Ty; p.Kind != impl.StVar {
				p.Ty = tyInt()
				want("the type", *p)
				p.Ty = was
			}
		}, func(e *impl.Expr) {
			for n := -1; n <= 6; n++ {
				if was := e.N; n != was && !hasOwnNumber(e.Kind) {
					e.N = n
					want("the number", *e)
					e.N = was
				}
			}
			was := e.Ty
			for _, other := range otherTypes(was) {
				e.Ty = other
				want("the type", *e)
			}
			e.Ty = was
		})
		if !impl.TypedOk(s) || turned == 0 {
			t.Errorf("%d were turned, and it is not as it was", turned)
		}
	}
}

// TestTurnedIntoAnother: what comes of a source by another number of its own is told of another source, if that is well.
func TestTurnedIntoAnother(t *testing.T) {
	s, _ := check(t, sourceOf(t, "type A struct { } type B struct { } func main ( ) { var x int ; x = ( 1 + 2 ) ; print len ( make [ ] int ( 3 ) ) ; print ( nil A == nil A ) ; print ( 0f0000000000000000 + 0f0000000000000000 ) ; }"))
	body := s.Funcs[0].Body
	sum, length, same, floats := &body[1].Kids[1], &body[2].Kids[0].Kids[0], &body[3].Kids[0].Kids[0], &body[4].Kids[0]
	want := func(what string, ok bool) {
		t.Helper()
		if typedOk(t, s) != ok {
			t.Errorf("%s: TypedOk is %v", what, !ok)
		}
	}
	want("as it was told", true)
	sum.Kids[0].N = -5
	want("another number", true)
	sum.N = impl.BiRem
	want("another op", true)
	sum.N = 7
	want("no op", false)
	sum.N = impl.BiSame
	length.Ty = tyPtrs(1)
	want("another list of which the length is asked", true)
	length.Ty = tyPtrs(2)
	want("a list of no struct", false)
	length.Ty = tyFloats()
	same.Kind = impl.ExNew
	want("new in place of nil", true)
	same.N = 1
	want("another struct, but the type of the first one", false)
	same.Ty = tyPtr(1)
	want("a pointer to another struct", false)
	same.Kind, same.N, same.Ty = impl.ExNil, 0, tyPtr(0)
	want("as it was", true)
	floats.N = impl.BiRem
	want("an op that floats have not", false)
	floats.N = impl.BiLess
	want("an op that is told another type", false)
	floats.Ty = tyInt()
	want("with the type that it is told", true)
	s.Structs[0].Name = []byte("b")
	want("no struct's name", false)
}

// TestTypesThatAreThere: a source with a type or a number is none, unless Check would tell it.
func TestTypesThatAreThere(t *testing.T) {
	for _, s := range []impl.Source{
		mainOf(plain(impl.StPrint, ofTy(num(1), tyInt()))), mainOf(plain(impl.StPrint, ofTy(num(1), tyFloat()))), mainOf(declared("a", tyInt(), 1)), mainOf(declared("a", tyInt(), -1)),
		mainOf(declare("a", tyInt()), declared("b", tyInt(), 1)), mainOf(plain(impl.StDo, typed(call("main"), impl.Ty{}, 1))), mainOf(plain(impl.StDo, typed(call("main"), tyInt(), 0))),
		mainOf(declare("a", tyInt()), declared("b", tyInt(), 1), plain(impl.StPrint, typed(named("b"), tyInt(), 1))), mainOf(plain(impl.StReturn), plain(impl.StPrint, ofTy(read(), tyInt()))), mainOf(plain(impl.StPrint, typed(named("x"), tyInt(), 0))),
	} {
		if told, code := check(t, s); code != impl.TypeForm {
			t.Errorf("%d, %s, of %s", code, show(told), show(s))
		}
	}
	// What Check has nothing to put into is told as it is.
	for _, text := range []string{"func main ( ) { }", "type A struct { a int ; } func main ( ) { return ; }", "func main ( ) { var a int ; }", "func main ( ) { do main ( ) ; }", "func f ( a int , b float ) { } func main ( ) { var x [ ] int ; return ; }"} {
		s := sourceOf(t, text)
		if told, code := check(t, s); code != impl.TypeWell || !sameSource(told, s) || !typedOk(t, s) {
			t.Errorf("%q is told otherwise: %d, %s", text, code, show(told))
		}
	}
	for _, text := range []string{
		"func main ( ) { print 1 ; }", "func main ( ) { var a int ; var b int ; }", "func f ( a int ) { var b int ; } func main ( ) { }", "func f ( ) { } func main ( ) { do main ( ) ; }", "func main ( ) { for read { } }",
		// None of these is well.
		"", "func f ( ) { }", "func main ( ) { var a int ; var a int ; }", "func main ( ) { return ; return ; }", "func f ( ) int { return ; } func main ( ) { }", "func f ( ) int { } func main ( ) { }",
	} {
		if typedOk(t, sourceOf(t, text)) {
			t.Errorf("%q is TypedOk", text)
		}
	}
}

// TestTypedOkOfNoSources: whatever is wrong with a source is so with its types, too.
func TestTypedOkOfNoSources(t *testing.T) {
	spoilt := []func(s *impl.Source){
		func(s *impl.Source) { s.Structs[1].Name = []byte("P") },
		func(s *impl.Source) { s.Structs[0].Fields[0].Ty = tyPtr(1) },
		func(s *impl.Source) { s.Structs[0].Fields[1].Name = []byte("a") },
		func(s *impl.Source) { s.Funcs[0].Name = []byte("F") },
		func(s *impl.Source) { s.Funcs[1].Name = []byte("f") },
		func(s *impl.Source) { s.Funcs[1].Res = impl.Ty{Kind: impl.TyNone, N: 1} },
		func(s *impl.Source) { s.Funcs[1].Res = impl.Ty{Kind: 9} },
		func(s *impl.Source) { s.Funcs[2].Name = []byte("mail") },
		func(s *impl.Source) { s.Funcs[0].Params[0].Name = []byte("k") },
		func(s *impl.Source) { s.Funcs[0].Params[0].Ty = impl.Ty{} },
		func(s *impl.Source) { s.Funcs[0].Params[1].Name = nil },
		func(s *impl.Source) { s.Funcs = append(s.Funcs, s.Funcs[1]) },
		func(s *impl.Source) { s.Funcs[0].Body[0].Name = []byte("x y") },
		func(s *impl.Source) { s.Funcs[0].Body[0].Name = []byte("verylongword") },
		func(s *impl.Source) { s.Funcs[0].Body[1].Name = []byte("x") },
		func(s *impl.Source) { s.Funcs[0].Body[1].Kind = 8 },
		func(s *impl.Source) { s.Funcs[0].Body[1].Kids[0].Kind = -1 },
		func(s *impl.Source) { s.Funcs[0].Body[1].Kids[0].Name = []byte("y") },
		func(s *impl.Source) { s.Funcs[0].Body[1].Kids = s.Funcs[0].Body[1].Kids[:1] },
		func(s *impl.Source) { s.Funcs[0].Body[1].Body = manyStmts(1) },
		func(s *impl.Source) { s.Funcs[0].Body = s.Funcs[0].Body[:3] },
		func(s *impl.Source) { s.Funcs[0].Body = append(s.Funcs[0].Body, plain(impl.StReturn)) },
		func(s *impl.Source) { s.Funcs[2].Body = append(manyStmts(impl.MaxNodes), s.Funcs[2].Body...) },
		func(s *impl.Source) {
			s.Funcs[2].Body = append([]impl.Stmt{deepStmt(impl.MaxDeep + 1)}, s.Funcs[2].Body...)
		},
		func(s *impl.Source) { s.Structs = append(s.Structs, make([]impl.Struct, impl.MaxStructs)...) },
		func(s *impl.Source) { s.Funcs = append(s.Funcs, make([]impl.Func, impl.MaxFuncs)...) },
	}
	for i, spoil := range spoilt {
		s := roomy(typedSource())
		spoil(&s)
		if typedOk(t, s) {
			t.Errorf("%d: TypedOk of %s", i, show(s))
		}
	}
}

// TestLimitsWithTypes: types add nothing to what is counted.
func TestLimitsWithTypes(t *testing.T) {
	for _, most := range []bool{true, false} {
		more := 0
		if !most {
			more = 1
		}
		body := []impl.Stmt{deepStmt(impl.MaxDeep + more)}
		for _, s := range []impl.Source{mainOf(body...), mainOf(append(manyStmts((impl.MaxNodes)/2), manyReturns(more)...)...), mainOf(longNames(most)...)} {
			told, code := check(t, s)
			if most != (code == impl.TypeWell) || !most && code != impl.TypeForm {
				t.Errorf("at the limit %v: %d", most, code)
			}
			if !most {
				told = withTypes(s)
			}
			if typedOk(t, told) != most {
				t.Errorf("at the limit %v, TypedOk is not", most)
			}
		}
	}
}

// withTypes puts in what Check would, where all expressions are ints and no variables are used.
func withTypes(s impl.Source) impl.Source {
	s = roomy(s)
	next := 0
	eachPart(s, func(p *impl.Stmt) {
		if p.Kind == impl.StVar {
			p.N = next
			next++
		}
	}, func(e *impl.Expr) { e.Ty = tyInt() })
	return s
}

func manyReturns(count int) []impl.Stmt {
	var list []impl.Stmt
	for range count {
		list = append(list, plain(impl.StReturn))
	}
	return list
}

// longNames are statements whose text in main has MaxProgram bytes, or one more.
func longNames(most bool) []impl.Stmt {
	const around = len("func main ( ) {\n}\n")
	var list []impl.Stmt
	left := impl.MaxProgram - around
	if !most {
		left++
	}
	const line = len("var v0000000 [ ] float ;\n")
	for left > 2*len("print 1000000000000000000 ;\n") {
		list = append(list, declare(fmt.Sprintf("v%07d", len(list)), tyFloats()))
		left -= line
	}
	// Two more lines, of which the digits fill the rest.
	for _, size := range []int{left / 2, left - left/2} {
		n := 1
		for range size - len("print 1 ;\n") {
			n *= 10
		}
		list = append(list, plain(impl.StPrint, num(n)))
	}
	return list
}

// TestTreesThatHoldThemselves: those are no sources, and all calls end.
func TestTreesThatHoldThemselves(t *testing.T) {
	kids := make([]impl.Expr, 2)
	kids[0] = ofTy(num(1), tyInt())
	kids[1] = impl.Expr{Kind: impl.ExBin, Ty: tyInt(), Kids: kids}
	bare := make([]impl.Expr, 1)
	bare[0] = impl.Expr{Kind: impl.ExToInt, Kids: bare}
	block := make([]impl.Stmt, 1)
	block[0] = impl.Stmt{Kind: impl.StFor, Kids: []impl.Expr{ofTy(num(1), tyInt())}, Body: block}
	both := make([]impl.Stmt, 1)
	both[0] = impl.Stmt{Kind: impl.StIf, Kids: []impl.Expr{num(1)}, Body: both, Else: both}
	wide := []impl.Stmt{plain(impl.StReturn)}
	for range 25 {
		wide = []impl.Stmt{{Kind: impl.StIf, Kids: []impl.Expr{num(1)}, Body: wide, Else: wide}}
	}
	for i, body := range [][]impl.Stmt{{plain(impl.StPrint, kids...)}, {plain(impl.StPrint, kids[1])}, {plain(impl.StPrint, bare...)}, block, both, wide} {
		s := mainOf(body...)
		told, code := impl.Check(s)
		if code != impl.TypeForm || !sameSource(told, impl.Source{}) || impl.NamesOk(s) || impl.FlowOk(s) || impl.TypedOk(s) {
			t.Errorf("tree %d: %d", i, code)
		}
	}
	long := []byte(strings.Repeat("a", 1<<20))
	body := make([]impl.Stmt, 300)
	for i := range body {
		body[i] = impl.Stmt{Kind: impl.StVar, Name: long, Ty: tyInt()}
	}
	if s := mainOf(body...); impl.TypedOk(s) || impl.NamesOk(s) {
		t.Error("long names are taken")
	}
}

// TestSharedParts: what is told shares nothing even where the source holds one list in two places.
func TestSharedParts(t *testing.T) {
	kids := []impl.Expr{num(1), num(2)}
	name := []byte("x")
	sum := impl.Expr{Kind: impl.ExBin, Kids: kids}
	body := []impl.Stmt{{Kind: impl.StPrint, Kids: []impl.Expr{sum}}, {Kind: impl.StSet, Kids: []impl.Expr{{Kind: impl.ExVar, Name: name}, sum}}}
	s := mainOf(impl.Stmt{Kind: impl.StVar, Name: name, Ty: tyInt()}, choose(sum, body, body), loop(sum, body...))
	s.Structs = []impl.Struct{{Name: []byte("A"), Fields: []impl.Param{{Name: name, Ty: tyInt()}}}, {Name: []byte("B"), Fields: []impl.Param{{Name: name, Ty: tyInt()}}}}
	was := deepText(s)
	told, code := impl.Check(s)
	if code != impl.TypeWell || !impl.TypedOk(told) || deepText(s) != was {
		t.Errorf("%d: %s", code, show(told))
	}
	wantFresh(t, told, impl.Source{})
	wantTold(t, s, told)
	for i := range told.Funcs[0].Body[1].Body {
		told.Funcs[0].Body[1].Body[i].Kids[0].Kind = 99
	}
	if deepText(s) != was {
		t.Error("what was told is the source itself")
	}
}

// TestEmptyAndNil are the same value, in what is handed in.
func TestEmptyAndNil(t *testing.T) {
	empty := typedSource()
	for i := range empty.Funcs {
		if empty.Funcs[i].Params == nil {
			empty.Funcs[i].Params = []impl.Param{}
		}
	}
	eachPart(empty, func(p *impl.Stmt) {
		p.Name = append([]byte{}, p.Name...)
		p.Kids = append([]impl.Expr{}, p.Kids...)
		p.Body = append([]impl.Stmt{}, p.Body...)
		p.Else = append([]impl.Stmt{}, p.Else...)
	}, func(e *impl.Expr) {
		e.Name = append([]byte{}, e.Name...)
		e.Kids = append([]impl.Expr{}, e.Kids...)
	})
	if !typedOk(t, empty) {
		t.Error("with empty lists it is not TypedOk")
	}
	if told, code := check(t, bared(empty)); code != impl.TypeWell || !sameSource(told, typedSource()) {
		t.Errorf("with empty lists it is told %d", code)
	}
}
