package tests

import (
	"testing"

	"loop.example/g00306/impl"
)

// endings are statements that end a block, in a function without a result.
func endings() []string {
	return []string{
		"return ;", "panic 1 ;", "if 1 { return ; } else { return ; }", "if 1 { panic 1 ; } else { panic 2 ; }", "if 1 { return ; } else { panic 1 ; }", "if 1 { panic 1 ; } else { return ; }",
		"if 1 { print 1 ; return ; } else { var y int ; panic y ; }", "if 1 { if 2 { return ; } else { return ; } } else { return ; }", "if 1 { return ; } else { if 2 { panic 1 ; } else { return ; } }",
		"if 1 { if 2 { if 3 { return ; } else { panic 1 ; } } else { return ; } } else { for 1 { } return ; }",
	}
}

// goings are statements that do not.
func goings() []string {
	return []string{
		"print 1 ;", "var x int ;", "do main ( ) ;", "make [ ] int ( 1 ) [ 0 ] = 1 ;", "for 1 { }", "for 1 { return ; }", "for 1 { panic 1 ; }", "for 1 { if 1 { return ; } else { return ; } }",
		"if 1 { } else { }", "if 1 { return ; } else { }", "if 1 { } else { return ; }", "if 1 { panic 1 ; } else { }", "if 1 { } else { panic 1 ; }", "if 1 { return ; } else { print 1 ; }", "if 1 { print 1 ; } else { panic 1 ; }",
		"if 1 { for 1 { return ; } } else { return ; }", "if 1 { return ; } else { for 1 { return ; } }", "if 1 { if 1 { return ; } else { } } else { return ; }", "if 1 { return ; } else { if 1 { } else { return ; } }", "if 1 { var x int ; } else { return ; }",
	}
}

// blocksAround are texts with a block in which a statement may stand; all that they end by themselves is what stands in it.
func blocksAround() [][2]string {
	return [][2]string{{"", ""}, {"for 1 { ", " }"}, {"if 1 { ", " } else { }"}, {"if 1 { } else { ", " }"}, {"if 1 { ", " } else { return ; }"}, {"if 1 { return ; } else { ", " }"}, {"for 1 { print 1 ; if 1 { } else { for 2 { ", " } } }"}}
}

func TestNothingBehindAnEnd(t *testing.T) {
	for _, around := range blocksAround() {
		for _, end := range endings() {
			wantCodeInMain(t, impl.TypeWell, "", around[0]+end+around[1], around[0]+"print 1 ; "+end+around[1])
			for _, next := range []string{"print 2 ;", "var z int ;", "return ;", "panic 3 ;", "for 1 { }", "if 1 { } else { }", "do main ( ) ;", end} {
				if next == end && len(end) > 40 {
					next = "return ;"
				}
				wantCodeInMain(t, impl.TypeFlow, "", around[0]+end+" "+next+around[1], around[0]+"print 1 ; "+end+" "+next+" print 3 ;"+around[1])
			}
		}
		for _, going := range goings() {
			wantCodeInMain(t, impl.TypeWell, "", around[0]+going+around[1], around[0]+going+" print 2 ;"+around[1], around[0]+going+" return ;"+around[1], around[0]+"for 1 { } "+going+" panic 4 ;"+around[1])
		}
	}
	wantCode(t, impl.TypeFlow,
		"func main ( ) { } func f ( ) { return ; return ; }", "func f ( ) { return ; return ; } func main ( ) { }", "func f ( ) int { return 1 ; return 1 ; } func main ( ) { }", "func main ( ) { } func f ( ) int { for 1 { panic 1 ; print 1 ; } return 1 ; }",
		// What ends stands behind what ends.
		"func f ( ) int { if 1 { return 1 ; print 1 ; } else { return 1 ; } } func main ( ) { }", "func f ( ) int { if 1 { return 1 ; } else { panic 1 ; return 1 ; } } func main ( ) { }",
	)
}

func TestResultsAreNotLeftOut(t *testing.T) {
	for _, at := range [][2]string{{"func f ( ) int { ", " } func main ( ) { }"}, {"func main ( ) { } func f ( a int , b float ) int { ", " }"}, {"func main ( ) { } func g ( ) { } func f ( ) int { print 1 ; for 1 { } ", " } func h ( ) { }"}} {
		for _, end := range []string{"return 1 ;", "panic 1 ;", "if 1 { return 1 ; } else { return 2 ; }", "if 1 { panic 1 ; } else { panic 2 ; }", "if 1 { return 1 ; } else { if 2 { panic 1 ; } else { return 1 ; } }", "for 1 { return 1 ; } return 2 ;", "if 1 { return 1 ; } else { } panic 1 ;"} {
			wantCode(t, impl.TypeWell, at[0]+end+at[1])
		}
		for _, going := range []string{
			"", "print 1 ;", "var x int ;", "do main ( ) ;", "for 1 { }", "for 1 { return 1 ; }", "for 1 { panic 1 ; }", "if 1 { } else { }", "if 1 { return 1 ; } else { }", "if 1 { } else { return 1 ; }", "if 1 { return 1 ; } else { print 1 ; }",
			"if 1 { for 1 { return 1 ; } } else { return 1 ; }", "if 1 { return 1 ; } else { if 1 { } else { return 1 ; } }", "if 1 { panic 1 ; } else { } print 1 ;",
		} {
			wantCode(t, impl.TypeFlow, at[0]+going+at[1])
		}
	}
	wantCode(t, impl.TypeWell, "func f ( ) { } func main ( ) { for 1 { } }", "func f ( ) { if 1 { return ; } else { } } func main ( ) { }")
	for _, ty := range []string{"int", "float", "* A", "[ ] int", "[ ] float", "[ ] * A"} {
		wantCode(t, impl.TypeFlow, "type A struct { } func f ( ) "+ty+" { } func main ( ) { }")
		wantCode(t, impl.TypeWell, "type A struct { } func f ( ) "+ty+" { panic 1 ; } func main ( ) { }", "type A struct { } func f ( a "+ty+" ) "+ty+" { return a ; } func main ( ) { }")
	}
}

// fault is something wrong in a source, of which the code tells.
type fault struct {
	code  int
	wrong func(s *impl.Source)
}

// faults are some of each code. Each leaves room for those that come behind it, in a function of its own or at the end of main's Body.
func faults() []fault {
	add := func(list ...impl.Stmt) func(*impl.Source) {
		return func(s *impl.Source) { s.Funcs[0].Body = append(list, s.Funcs[0].Body...) }
	}
	more := func(f impl.Func) func(*impl.Source) {
		return func(s *impl.Source) { s.Funcs = append(s.Funcs, f) }
	}
	return []fault{
		{impl.TypeForm, add(plain(impl.StPrint, impl.Expr{Kind: impl.ExInt, Ty: tyInt()}))},
		{impl.TypeForm, add(plain(99))},
		{impl.TypeForm, add(plain(impl.StPrint))},
		{impl.TypeForm, func(s *impl.Source) { s.Structs = append(s.Structs, structure("a")) }},
		{impl.TypeForm, func(s *impl.Source) { s.Funcs[0].Res = impl.Ty{N: 1} }},
		{impl.TypeForm, add(deepStmt(impl.MaxDeep + 1))},
		{impl.TypeForm, add(manyStmts(impl.MaxNodes + 1)...)},
		{impl.TypeForm, more(function("if", nil, impl.Ty{}))},
		{impl.TypeName, add(plain(impl.StPrint, named("nobody")))},
		{impl.TypeName, add(plain(impl.StDo, call("nobody")))},
		{impl.TypeName, add(declare("a", tyInt()), declare("a", tyInt()))},
		{impl.TypeName, func(s *impl.Source) { s.Funcs[0].Params = []impl.Param{param("p", tyInt())} }},
		{impl.TypeName, func(s *impl.Source) { s.Funcs[0].Name = []byte("man") }},
		{impl.TypeName, func(s *impl.Source) {
			s.Funcs = append(s.Funcs, function("twice", nil, impl.Ty{}), function("twice", nil, impl.Ty{}))
		}},
		{impl.TypeName, func(s *impl.Source) {
			s.Structs = append(s.Structs, structure("T", param("a", tyInt()), param("a", tyInt())))
		}},
		{impl.TypeFlow, add(loop(num(1), plain(impl.StReturn), plain(impl.StReturn)))},
		{impl.TypeFlow, more(function("noend", nil, tyInt()))},
		{impl.TypeFlow, more(function("forend", nil, tyInt(), loop(num(1), plain(impl.StReturn, num(1)))))},
		{impl.TypeClash, add(plain(impl.StPrint, null(0)))},
		{impl.TypeClash, more(function("clash", nil, impl.Ty{}, plain(impl.StReturn, num(1))))},
		{impl.TypeClash, add(set(field(fresh(0), "nofield"), num(1)))},
	}
}

func deepStmt(deep int) impl.Stmt {
	s := loop(num(1))
	for range deep - 2 {
		s = loop(num(1), s)
	}
	return s
}

func manyStmts(count int) []impl.Stmt {
	var list []impl.Stmt
	for range count {
		list = append(list, choose(num(1), nil, nil))
	}
	return list
}

// TestFirstCodeCounts puts one, two or three faults into one source, in each order.
func TestFirstCodeCounts(t *testing.T) {
	list := faults()
	sound := func() impl.Source {
		s := mainOf()
		s.Structs = []impl.Struct{structure("A", param("x", tyInt()))}
		return s
	}
	if _, code := check(t, sound()); code != impl.TypeWell {
		t.Fatal(code)
	}
	want := func(some ...fault) {
		s, first := sound(), impl.TypeClash
		for _, f := range some {
			f.wrong(&s)
			first = min(first, f.code)
		}
		if _, code := check(t, s); code != first {
			t.Errorf("%d, want %d, of %s", code, first, show(s))
		}
	}
	for i, a := range list {
		want(a)
		for j, b := range list {
			if i == j {
				continue
			}
			want(a, b)
			if k := (i*7 + j*3) % len(list); k != i && k != j {
				want(a, b, list[k])
			}
		}
	}
}
