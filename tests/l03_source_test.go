package tests

import (
	"math"
	"strings"
	"testing"

	"loop.example/g00306/impl"
)

// sample is a source with every kind of type, expression and statement; sampleText is its text.
func sample() impl.Source {
	return impl.Source{
		Structs: []impl.Struct{
			structure("Empty"),
			structure("Node", param("v", tyInt()), param("w", tyFloat()), param("next", tyPtr(1)), param("e", tyPtr(0)), param("all", tyPtrs(1))),
			structure("B2", param("is", tyInts()), param("fs", tyFloats())),
		},
		Funcs: []impl.Func{
			function("main", nil, impl.Ty{},
				declare("i", tyInt()), declare("f", tyFloat()), declare("p", tyPtr(2)), declare("is", tyInts()), declare("fs", tyFloats()), declare("ps", tyPtrs(1)),
				set(named("i"), num(-12)),
				set(named("f"), float(1)),
				set(field(field(named("p"), "next"), "v"), read()),
				set(index(named("is"), num(0)), toInt(named("f"))),
				set(named("p"), null(2)),
				set(named("p"), fresh(2)),
				set(named("is"), made(tyInts(), num(3))),
				set(named("fs"), made(tyFloats(), size(named("is")))),
				set(named("ps"), made(tyPtrs(1), call("g"))),
				choose(bin(impl.BiLess, named("i"), num(5)),
					[]impl.Stmt{plain(impl.StPrint, toFloat(num(7)))},
					[]impl.Stmt{plain(impl.StPanic, num(9)), choose(num(1), nil, nil)}),
				loop(bin(impl.BiSame, named("p"), null(2)), plain(impl.StDo, call("h", num(1), named("p"))), loop(num(0))),
				plain(impl.StReturn)),
			function("g", nil, tyInt(),
				plain(impl.StReturn, bin(impl.BiAdd, bin(impl.BiSub, num(1), num(2)), bin(impl.BiMul, num(3), bin(impl.BiDiv, num(4), bin(impl.BiRem, num(5), num(-6))))))),
			function("h", []impl.Param{param("a", tyInt()), param("b", tyPtr(2))}, tyPtrs(0)),
			function("k", []impl.Param{param("a", tyFloats())}, tyFloat()),
		},
	}
}

func sampleText() string {
	return lines(
		"type Empty struct {", "}",
		"type Node struct {", "v int ;", "w float ;", "next * Node ;", "e * Empty ;", "all [ ] * Node ;", "}",
		"type B2 struct {", "is [ ] int ;", "fs [ ] float ;", "}",
		"func main ( ) {",
		"var i int ;", "var f float ;", "var p * B2 ;", "var is [ ] int ;", "var fs [ ] float ;", "var ps [ ] * Node ;",
		"i = -12 ;",
		"f = 0f3ff0000000000000 ;",
		"p . next . v = read ;",
		"is [ 0 ] = int ( f ) ;",
		"p = nil B2 ;",
		"p = new B2 ;",
		"is = make [ ] int ( 3 ) ;",
		"fs = make [ ] float ( len ( is ) ) ;",
		"ps = make [ ] * Node ( g ( ) ) ;",
		"if ( i < 5 ) {", "print float ( 7 ) ;", "} else {", "panic 9 ;", "if 1 {", "} else {", "}", "}",
		"for ( p == nil B2 ) {", "do h ( 1 , p ) ;", "for 0 {", "}", "}",
		"return ;", "}",
		"func g ( ) int {", "return ( ( 1 - 2 ) + ( 3 * ( 4 / ( 5 % -6 ) ) ) ) ;", "}",
		"func h ( a int , b * B2 ) [ ] * Empty {", "}",
		"func k ( a [ ] float ) float {", "}",
	)
}

func TestSampleBothWays(t *testing.T) {
	wantBothWays(t, sample(), sampleText())
	if got := impl.Nodes(sample()); got != 76 {
		t.Errorf("the sample has %d parts", got)
	}
}

func TestSmallSourcesBothWays(t *testing.T) {
	wantBothWays(t, impl.Source{}, "")
	wantBothWays(t, mainOf(), "func main ( ) {\n}\n")
	wantBothWays(t, impl.Source{Structs: []impl.Struct{structure("A")}}, "type A struct {\n}\n")
	wantBothWays(t, impl.Source{Structs: []impl.Struct{structure("A", param("a", tyPtr(0)))}}, "type A struct {\na * A ;\n}\n")
	if text, ok := impl.Print(impl.Source{}); !ok || len(text) != 0 || impl.Nodes(impl.Source{}) != 0 || !impl.SourceOk(impl.Source{}) {
		t.Error("a source of nothing is one")
	}
}

// expressions are one of each kind, over two structs, with their texts.
func expressions() map[string]impl.Expr {
	list := map[string]impl.Expr{
		"-9223372036854775808": num(math.MinInt), "9223372036854775807": num(math.MaxInt), "0": num(0), "-1": num(-1),
		"0f7ff8000000000001": {Kind: impl.ExFloat, N: noNumber}, "0f8000000000000000": {Kind: impl.ExFloat, N: math.MinInt}, "0f0000000000000000": float(0), "0f4008000000000000": float(3),
		"nil A": null(0), "nil B": null(1), "new A": fresh(0), "new B": fresh(1),
		"x": named("x"), "abcdefgh": named("abcdefgh"), "read": read(),
		"make [ ] int ( 1 )": made(tyInts(), num(1)), "make [ ] float ( x )": made(tyFloats(), named("x")), "make [ ] * A ( 1 )": made(tyPtrs(0), num(1)), "make [ ] * B ( 1 )": made(tyPtrs(1), num(1)),
		"f ( )": call("f"), "f ( 1 )": call("f", num(1)), "f ( 1 , read )": call("f", num(1), read()), "f ( a , b , c , d )": call("f", named("a"), named("b"), named("c"), named("d")),
		"x . y": field(named("x"), "y"), "x [ 1 ]": index(named("x"), num(1)), "x [ y [ 2 ] ]": index(named("x"), index(named("y"), num(2))),
		"len ( x )": size(named("x")), "int ( x )": toInt(named("x")), "float ( x )": toFloat(named("x")),
	}
	for op, text := range []string{"+", "-", "*", "/", "%", "<", "=="} {
		list["( x "+text+" 1 )"] = bin(op, named("x"), num(1))
		list["( 2 "+text+" -1 )"] = bin(op, num(2), num(-1))
	}
	return list
}

func overTwoStructs(body ...impl.Stmt) impl.Source {
	s := mainOf(body...)
	s.Structs = []impl.Struct{structure("A"), structure("B")}
	return s
}

const twoStructs = "type A struct {\n}\ntype B struct {\n}\nfunc main ( ) {\n"

// TestEachExpressionBothWays puts each kind into every place that takes an expression, alone and with . and [ behind it.
func TestEachExpressionBothWays(t *testing.T) {
	for text, e := range expressions() {
		shapes := map[string]impl.Expr{
			text: e, text + " . a": field(e, "a"), text + " [ 0 ]": index(e, num(0)), "x [ " + text + " ]": index(named("x"), e),
			text + " . a . b": field(field(e, "a"), "b"), text + " [ 0 ] [ 1 ]": index(index(e, num(0)), num(1)),
			text + " . a [ " + text + " ] . b":  field(index(field(e, "a"), e), "b"),
			"( " + text + " - " + text + " )":   bin(impl.BiSub, e, e),
			"f ( " + text + " , " + text + " )": call("f", e, e),
			"make [ ] int ( " + text + " )":     made(tyInts(), e), "len ( " + text + " )": size(e), "int ( " + text + " )": toInt(e), "float ( " + text + " )": toFloat(e),
		}
		for shape, k := range shapes {
			wantBothWays(t, overTwoStructs(plain(impl.StPrint, k)), twoStructs+"print "+shape+" ;\n}\n")
			wantBothWays(t, overTwoStructs(plain(impl.StPanic, k)), twoStructs+"panic "+shape+" ;\n}\n")
			wantBothWays(t, overTwoStructs(plain(impl.StReturn, k)), twoStructs+"return "+shape+" ;\n}\n")
			wantBothWays(t, overTwoStructs(set(named("x"), k)), twoStructs+"x = "+shape+" ;\n}\n")
			wantBothWays(t, overTwoStructs(set(field(k, "a"), k)), twoStructs+shape+" . a = "+shape+" ;\n}\n")
			wantBothWays(t, overTwoStructs(set(index(k, k), k)), twoStructs+shape+" [ "+shape+" ] = "+shape+" ;\n}\n")
			wantBothWays(t, overTwoStructs(choose(k, nil, nil)), twoStructs+"if "+shape+" {\n} else {\n}\n}\n")
			wantBothWays(t, overTwoStructs(loop(k)), twoStructs+"for "+shape+" {\n}\n}\n")
			wantBothWays(t, overTwoStructs(plain(impl.StDo, call("f", k))), twoStructs+"do f ( "+shape+" ) ;\n}\n")
		}
	}
}

func TestEachTypeBothWays(t *testing.T) {
	types := map[string]impl.Ty{"int": tyInt(), "float": tyFloat(), "* A": tyPtr(0), "* B": tyPtr(1), "[ ] int": tyInts(), "[ ] float": tyFloats(), "[ ] * A": tyPtrs(0), "[ ] * B": tyPtrs(1)}
	for text, ty := range types {
		wantBothWays(t, overTwoStructs(declare("x", ty)), twoStructs+"var x "+text+" ;\n}\n")
		s := impl.Source{Structs: []impl.Struct{structure("A"), structure("B", param("x", ty))}, Funcs: []impl.Func{function("f", []impl.Param{param("a", ty), param("a", ty)}, ty)}}
		wantBothWays(t, s, "type A struct {\n}\ntype B struct {\nx "+text+" ;\n}\nfunc f ( a "+text+" , a "+text+" ) "+text+" {\n}\n")
	}
}

// refuse fails unless all three functions say that s is no source.
func refuse(t *testing.T, why string, s impl.Source) {
	t.Helper()
	if _, ok := printed(t, s); ok {
		t.Errorf("%s: SourceOk of %s", why, show(s))
	}
	if parts := impl.Nodes(s); parts != 0 {
		t.Errorf("%s: %d parts of %s", why, parts, show(s))
	}
}

func TestKindsThatAreNone(t *testing.T) {
	for _, kind := range []int{-1, 14, 15, 256, math.MinInt, math.MaxInt} {
		refuse(t, "kind of an expression", mainOf(plain(impl.StPrint, impl.Expr{Kind: kind})))
		refuse(t, "kind of an expression with a Kid", mainOf(plain(impl.StPrint, impl.Expr{Kind: kind, Kids: []impl.Expr{num(1)}})))
	}
	for _, kind := range []int{-1, 8, 9, 256, math.MinInt, math.MaxInt} {
		refuse(t, "kind of a statement", mainOf(impl.Stmt{Kind: kind}))
		refuse(t, "kind of a statement with a Kid", mainOf(impl.Stmt{Kind: kind, Kids: []impl.Expr{num(1)}}))
	}
	for _, op := range []int{-1, 7, 8, math.MinInt, math.MaxInt} {
		refuse(t, "op", mainOf(plain(impl.StPrint, bin(op, num(1), num(2)))))
	}
}

// TestFieldsThatMustBeZero sets each field that a kind does not name.
func TestFieldsThatMustBeZero(t *testing.T) {
	usesN := map[int]bool{impl.ExInt: true, impl.ExFloat: true, impl.ExNil: true, impl.ExNew: true, impl.ExBin: true}
	for text, e := range expressions() {
		if !usesN[e.Kind] {
			for _, n := range []int{1, -1, math.MinInt} {
				bad := e
				bad.N = n
				refuse(t, "N of "+text, overTwoStructs(plain(impl.StPrint, bad)))
			}
		}
		if e.Kind != impl.ExMake {
			for _, ty := range []impl.Ty{tyInt(), tyInts(), tyPtr(0), {N: 1}, {Kind: -1}} {
				bad := e
				bad.Ty = ty
				refuse(t, "Ty of "+text, overTwoStructs(plain(impl.StPrint, bad)))
			}
		}
		if len(e.Name) == 0 {
			bad := e
			bad.Name = []byte("x")
			refuse(t, "Name of "+text, overTwoStructs(plain(impl.StPrint, bad)))
		}
	}
}

func statements() map[string]impl.Stmt {
	return map[string]impl.Stmt{
		"var": declare("x", tyInt()), "set": set(named("x"), num(1)), "if": choose(num(1), nil, nil), "for": loop(num(1)),
		"return": plain(impl.StReturn), "return of": plain(impl.StReturn, num(1)), "print": plain(impl.StPrint, num(1)), "panic": plain(impl.StPanic, num(1)), "do": plain(impl.StDo, call("f")),
	}
}

func TestStatementFieldsThatMustBeZero(t *testing.T) {
	for text, s := range statements() {
		if _, ok := printed(t, mainOf(s)); !ok {
			t.Errorf("%s is refused", text)
		}
		for _, n := range []int{1, -1, math.MaxInt} {
			bad := s
			bad.N = n
			refuse(t, "N of "+text, mainOf(bad))
		}
		if s.Kind != impl.StVar {
			bad := s
			bad.Ty = tyInt()
			refuse(t, "Ty of "+text, mainOf(bad))
			bad = s
			bad.Ty.N = 1
			refuse(t, "N of Ty of "+text, overTwoStructs(bad))
			bad = s
			bad.Name = []byte("x")
			refuse(t, "Name of "+text, mainOf(bad))
		}
		if s.Kind != impl.StIf {
			bad := s
			bad.Else = []impl.Stmt{plain(impl.StReturn)}
			refuse(t, "Else of "+text, mainOf(bad))
			if s.Kind != impl.StFor {
				bad = s
				bad.Body = []impl.Stmt{plain(impl.StReturn)}
				refuse(t, "Body of "+text, mainOf(bad))
			}
		}
	}
}

func TestKidsTooFewOrTooMany(t *testing.T) {
	for text, e := range expressions() {
		bad := e
		bad.Kids = append([]impl.Expr{}, e.Kids...)
		for len(bad.Kids) < 7 {
			bad.Kids = append(bad.Kids, num(1))
			if e.Kind != impl.ExCall || len(bad.Kids) > impl.MaxParams {
				refuse(t, "Kids more of "+text, overTwoStructs(plain(impl.StPrint, bad)))
			}
		}
		for fewer := len(e.Kids) - 1; fewer >= 0 && e.Kind != impl.ExCall; fewer-- {
			bad.Kids = e.Kids[:fewer]
			refuse(t, "Kids fewer of "+text, overTwoStructs(plain(impl.StPrint, bad)))
		}
	}
	for text, s := range statements() {
		bad := s
		bad.Kids = append([]impl.Expr{}, s.Kids...)
		if s.Kind != impl.StReturn || len(s.Kids) > 0 {
			bad.Kids = append(bad.Kids, num(1))
			refuse(t, "Kids more of "+text, mainOf(bad))
		}
		for fewer := len(s.Kids) - 1; fewer >= 0 && s.Kind != impl.StReturn; fewer-- {
			bad.Kids = s.Kids[:fewer]
			refuse(t, "Kids fewer of "+text, mainOf(bad))
		}
	}
}

func TestNumbersOfExpressions(t *testing.T) {
	for _, n := range noNumberBits() {
		s := mainOf(plain(impl.StPrint, impl.Expr{Kind: impl.ExFloat, N: n}))
		if n == noNumber {
			wantBothWays(t, s, "func main ( ) {\nprint 0f7ff8000000000001 ;\n}\n")
			continue
		}
		refuse(t, "bits of no float", s)
	}
	for _, n := range []int{-1, 2, 3, math.MinInt, math.MaxInt} {
		refuse(t, "struct of nil", overTwoStructs(plain(impl.StPrint, null(n))))
		refuse(t, "struct of new", overTwoStructs(plain(impl.StPrint, fresh(n))))
	}
	refuse(t, "nil without structs", mainOf(plain(impl.StPrint, null(0))))
	refuse(t, "new without structs", mainOf(plain(impl.StPrint, fresh(0))))
}

func TestTypesThatAreNone(t *testing.T) {
	bad := []impl.Ty{
		{}, {N: 1}, {Kind: -1}, {Kind: 7}, {Kind: math.MaxInt}, {Kind: math.MinInt},
		{Kind: impl.TyInt, N: 1}, {Kind: impl.TyFloat, N: 1}, {Kind: impl.TyInts, N: 1}, {Kind: impl.TyFloats, N: -1},
		tyPtr(-1), tyPtr(2), tyPtr(math.MaxInt), tyPtr(math.MinInt), tyPtrs(-1), tyPtrs(2), tyPtrs(math.MinInt),
	}
	for _, ty := range bad {
		refuse(t, "type of a variable", overTwoStructs(declare("x", ty)))
		refuse(t, "type of a list that is made", overTwoStructs(plain(impl.StPrint, made(ty, num(1)))))
		s := overTwoStructs()
		s.Funcs[0].Params = []impl.Param{param("a", ty)}
		refuse(t, "type of a parameter", s)
		s = overTwoStructs()
		s.Structs[1].Fields = []impl.Param{param("a", ty)}
		refuse(t, "type of a field", s)
		s = overTwoStructs()
		s.Funcs[0].Res = ty
		if ty == (impl.Ty{}) {
			if _, ok := printed(t, s); !ok {
				t.Error("a function without a result is refused")
			}
			continue
		}
		refuse(t, "type of a result", s)
	}
	for _, ty := range []impl.Ty{tyInt(), tyFloat(), tyPtr(0)} {
		refuse(t, "a list that is none", overTwoStructs(plain(impl.StPrint, made(ty, num(1)))))
	}
}

func TestFieldsOverStructs(t *testing.T) {
	for own := range 4 {
		for of := range 5 {
			for _, ty := range []impl.Ty{tyPtr(of), tyPtrs(of)} {
				s := impl.Source{Structs: []impl.Struct{structure("A"), structure("B"), structure("C"), structure("D")}}
				s.Structs[own].Fields = []impl.Param{param("x", tyInt()), param("y", ty)}
				if _, ok := printed(t, s); ok != (of <= own) {
					t.Errorf("a field of struct %d over struct %d: %v", own, of, ok)
				}
			}
		}
	}
}

func TestWordsOfSources(t *testing.T) {
	keyWords := strings.Fields("type struct func var if else for return print panic do int float nil new make len read")
	good := []string{"a", "z9", "abcdefgh", "main", "types", "ifs", "i", "structs", "els", "reads", "x0000000"}
	bad := append(keyWords, "", "abcdefghi", "A", "Ab", "aB", "1a", "9", "a b", "a_b", "a-", "é", "a\x00", "`", "{", "a{", "a`", "a/", "a:", "@", "[")
	for _, name := range append(good, bad...) {
		want := len(name) > 0
		for _, b := range bad {
			want = want && name != b
		}
		field1, param1, func1 := overTwoStructs(), overTwoStructs(), overTwoStructs()
		field1.Structs[0].Fields = []impl.Param{param(name, tyInt())}
		param1.Funcs[0].Params = []impl.Param{param(name, tyInt())}
		func1.Funcs[0].Name = []byte(name)
		all := []impl.Source{
			field1, param1, func1, overTwoStructs(declare(name, tyInt())), overTwoStructs(plain(impl.StPrint, named(name))),
			overTwoStructs(plain(impl.StPrint, call(name))), overTwoStructs(plain(impl.StPrint, field(named("x"), name))), overTwoStructs(set(named(name), num(1))),
		}
		for i, s := range all {
			if _, ok := printed(t, s); ok != want {
				t.Errorf("the name %q in place %d: %v", name, i, ok)
			}
			if !want {
				refuse(t, "name", s)
			}
		}
	}
	for name, want := range map[string]bool{
		"A": true, "Z9": true, "Abcdefgh": true, "Int": true, "A2345678": true,
		"": false, "a": false, "Abcdefghi": false, "AB": false, "AbC": false, "1A": false, "A_": false, "A ": false, "@a": false, "[a": false, "int": false,
	} {
		if _, ok := printed(t, impl.Source{Structs: []impl.Struct{structure(name)}}); ok != want {
			t.Errorf("a struct %q: %v", name, ok)
		}
	}
}

func TestStructsOfOneName(t *testing.T) {
	refuse(t, "two alike", impl.Source{Structs: []impl.Struct{structure("A"), structure("A")}})
	refuse(t, "two alike, one between", impl.Source{Structs: []impl.Struct{structure("A"), structure("B"), structure("A")}})
	refuse(t, "the last two alike", impl.Source{Structs: []impl.Struct{structure("A"), structure("B1"), structure("B1")}})
	// All other names may be alike as far as this chapter goes.
	s := impl.Source{
		Structs: []impl.Struct{structure("A", param("x", tyInt()), param("x", tyInt()))},
		Funcs:   []impl.Func{function("f", []impl.Param{param("x", tyInt()), param("x", tyInt())}, impl.Ty{}, declare("x", tyInt()), declare("x", tyInt())), function("f", nil, impl.Ty{})},
	}
	wantBothWays(t, s, lines("type A struct {", "x int ;", "x int ;", "}", "func f ( x int , x int ) {", "var x int ;", "var x int ;", "}", "func f ( ) {", "}"))
}

func TestLeftSidesAndCallsOfSources(t *testing.T) {
	for text, e := range expressions() {
		left := e.Kind == impl.ExVar || e.Kind == impl.ExField || e.Kind == impl.ExIndex
		if _, ok := printed(t, overTwoStructs(set(e, num(1)))); ok != left {
			t.Errorf("the left side %s: %v", text, ok)
		}
		if _, ok := printed(t, overTwoStructs(plain(impl.StDo, e))); ok != (e.Kind == impl.ExCall) {
			t.Errorf("do %s: %v", text, ok)
		}
	}
	refuse(t, "a left side with a kind that is none within", mainOf(set(field(impl.Expr{Kind: 99}, "a"), num(1))))
	refuse(t, "a call with a kind that is none within", mainOf(plain(impl.StDo, call("f", impl.Expr{Kind: 99}))))
}

// TestWrongPartsDeepDown puts a wrong part into each block and each place of expressions.
func TestWrongPartsDeepDown(t *testing.T) {
	bad := impl.Expr{Kind: impl.ExRead, N: 1}
	wrong := plain(impl.StPrint, bad)
	fine := plain(impl.StReturn)
	refuse(t, "last statement", mainOf(fine, fine, wrong))
	refuse(t, "Body of if", mainOf(choose(num(1), []impl.Stmt{fine, wrong}, nil)))
	refuse(t, "Else of if", mainOf(choose(num(1), nil, []impl.Stmt{fine, wrong})))
	refuse(t, "Body of for", mainOf(loop(num(1), fine, wrong)))
	refuse(t, "Kid of if", mainOf(choose(bad, nil, nil)))
	refuse(t, "Kid of for", mainOf(loop(bad)))
	refuse(t, "right side", mainOf(set(named("x"), bad)))
	refuse(t, "left side", mainOf(set(index(named("x"), bad), num(1))))
	refuse(t, "last Kid of a call", mainOf(plain(impl.StDo, call("f", num(1), num(2), num(3), bad))))
	refuse(t, "result", mainOf(plain(impl.StReturn, bad)))
	refuse(t, "last function", impl.Source{Funcs: []impl.Func{function("f", nil, impl.Ty{}), function("g", nil, impl.Ty{}, wrong)}})
	refuse(t, "last field", impl.Source{Structs: []impl.Struct{structure("A", param("a", tyInt()), param("b", impl.Ty{}))}})
}
