package tests

import (
	"fmt"
	"strings"
	"testing"

	"loop.example/g00306/impl"
)

func TestStructsOfUnits(t *testing.T) {
	for _, x := range []struct {
		text string
		want []string
	}{
		{"func main ( ) { }", []string{"fn", "b0; return", "main 0"}},
		{"type A struct { } func main ( ) { }", []string{"struct", "fn", "b0; return", "main 0"}},
		{"type A struct { a int ; b float ; c * A ; d [ ] int ; e [ ] float ; } func main ( ) { }", []string{"struct int float *0 []int []float", "fn", "b0; return", "main 0"}},
		{"type A struct { x [ ] * A ; } type B struct { } type C struct { a * A ; c * C ; b [ ] * B ; x int ; } func main ( ) { }", []string{"struct []*0", "struct", "struct *0 *2 []*1 int", "fn", "b0; return", "main 0"}},
		{"type A struct { } type B struct { } type C struct { } type D struct { } type E struct { } type F struct { f * F ; e * E ; d * D ; c * C ; b * B ; } func main ( ) { var f * F ; print ( f . e == new E ) ; }",
			[]string{"struct", "struct", "struct", "struct", "struct", "struct *5 *4 *3 *2 *1", "fn", "b0; 0:*5 = nil; 1 = nilcheck 0; 2:*4 = load 1 0; 3:*4 = new 4; 4:int = same 2 3; 5 = print 4; return", "main 0"}},
	} {
		wantUnitText(t, x.text, x.want...)
	}
	// A field is found by its name, of each struct by itself.
	wantUnitText(t, "type A struct { x int ; y int ; } type B struct { y float ; a * A ; x float ; } func main ( ) { print new B . x ; print new B . a . y ; new B . y = new B . x ; }",
		"struct int int", "struct float *0 float", "fn",
		"b0; 0:*1 = new 1; 1 = nilcheck 0; 2:float = load 2 0; 3 = fprint 2; 4:*1 = new 1; 5 = nilcheck 4; 6:*0 = load 1 4; 7 = nilcheck 6; 8:int = load 1 6; 9 = print 8; 10:*1 = new 1; 11:*1 = new 1; 12 = nilcheck 11; 13:float = load 2 11; 14 = nilcheck 10; 15 = store 0 10 13; return",
		"main 0")
	// Pointers to structs further behind make it no source.
	later := impl.Source{Structs: []impl.Struct{structure("A", param("b", tyPtr(1))), structure("B")}, Funcs: mainOf().Funcs}
	wantNotLowered(t, "a pointer to a struct behind", later)
	later.Structs[0].Fields[0].Ty = tyPtrs(1)
	wantNotLowered(t, "a list of pointers to a struct behind", later)
	later.Structs[0].Fields[0].Ty = tyPtrs(0)
	if _, ok := lower(t, later); !ok {
		t.Error("a list of pointers to the struct itself is refused")
	}
}

// TestMainOfLowered: the functions keep their order, wherever main stands.
func TestMainOfLowered(t *testing.T) {
	main, one, two := "func main ( ) { print 1 ; }", "func a ( ) { do main ( ) ; }", "func b ( x int ) int { return x ; }"
	m, a, b := []string{"fn", "b0; 0:int = int 1; 1 = print 0; return"}, "fn", []string{"fn int > int", "b0 0:int; return 0"}
	wantUnitText(t, main, m[0], m[1], "main 0")
	wantUnitText(t, main+one+two, m[0], m[1], a, "b0; 0 = call 0; return", b[0], b[1], "main 0")
	wantUnitText(t, one+main+two, a, "b0; 0 = call 1; return", m[0], m[1], b[0], b[1], "main 1")
	wantUnitText(t, two+one+main, b[0], b[1], a, "b0; 0 = call 2; return", m[0], m[1], "main 2")
	var text strings.Builder
	for n := range impl.MaxFuncs - 1 {
		fmt.Fprintf(&text, "func f%d ( ) { do f%d ( ) ; } ", n, (n+3)%(impl.MaxFuncs-1))
	}
	u := loweredText(t, text.String()+main)
	if u.Main != impl.MaxFuncs-1 || len(u.Fns) != impl.MaxFuncs {
		t.Errorf("main is %d of %d", u.Main, len(u.Fns))
	}
	for n, f := range u.Fns[:impl.MaxFuncs-1] {
		if len(f.Vals) != 1 || f.Vals[0].N != (n+3)%(impl.MaxFuncs-1) {
			t.Errorf("function %d: %+v", n, f)
		}
	}
}

// TestHeadsOfFunctions: Params, Res, and a parameter of block 0 for each.
func TestHeadsOfFunctions(t *testing.T) {
	wantUnitText(t, "type S struct { } func f ( a int , b float , c * S , d [ ] * S ) { } func g ( a [ ] int ) [ ] float { panic 1 ; } func h ( a [ ] float , b int , c int ) * S { return nil S ; } func k ( ) int { return 3 ; } func main ( ) { }",
		"struct",
		"fn int float *0 []*0", "b0 0:int 1:float 2:*0 3:[]*0; return",
		"fn []int > []float", "b0 0:[]int; 1:int = int 1; panic 1",
		"fn []float int int > *0", "b0 0:[]float 1:int 2:int; 3:*0 = nil; return 3",
		"fn > int", "b0; 0:int = int 3; return 0",
		"fn", "b0; return",
		"main 4")
}

// TestUnitByHand is a unit as the language has it, all of it.
func TestUnitByHand(t *testing.T) {
	u := loweredText(t, "type N struct { v int ; n * N ; } func push ( p * N , v int ) * N { var q * N ; q = new N ; q . v = v ; q . n = p ; return q ; } func main ( ) { var p * N ; var i int ; i = read ; for i { p = push ( p , i ) ; i = ( i - 1 ) ; } if ( p == nil N ) { panic 4 ; } else { print p . v ; } }")
	ptr, num := tyPtr(0), tyInt()
	want := impl.Unit{
		Structs: [][]impl.Ty{{num, ptr}},
		Main:    1,
		Fns: []impl.Fn{{
			Params: []impl.Ty{ptr, num},
			Res:    ptr,
			Vals: []impl.Val{
				{Op: impl.VaPhi, Ty: ptr},
				{Op: impl.VaPhi, Ty: num},
				{Op: impl.VaNil, Ty: ptr},
				{Op: impl.VaNew, Ty: ptr},
				{Op: impl.VaNilCheck, Args: []int{3}},
				{Op: impl.VaStore, Args: []int{3, 1}},
				{Op: impl.VaNilCheck, Args: []int{3}},
				{Op: impl.VaStore, N: 1, Args: []int{3, 0}},
			},
			Blocks: []impl.Block{{Params: []int{0, 1}, Code: []int{2, 3, 4, 5, 6, 7}, Term: impl.TmReturn, Args: []int{3}}},
		}, {
			Vals: []impl.Val{
				{Op: impl.VaNil, Ty: ptr},
				{Op: impl.VaInt, Ty: num},
				{Op: impl.VaRead, Ty: num},
				{Op: impl.VaPhi, Ty: ptr},
				{Op: impl.VaPhi, Ty: num},
				{Op: impl.VaCall, Ty: ptr, Args: []int{3, 4}},
				{Op: impl.VaInt, N: 1, Ty: num},
				{Op: impl.VaArith, N: impl.BiSub, Ty: num, Args: []int{4, 6}},
				{Op: impl.VaNil, Ty: ptr},
				{Op: impl.VaSame, Ty: num, Args: []int{3, 8}},
				{Op: impl.VaInt, N: 4, Ty: num},
				{Op: impl.VaNilCheck, Args: []int{3}},
				{Op: impl.VaLoad, Ty: num, Args: []int{3}},
				{Op: impl.VaPrint, Args: []int{12}},
			},
			Blocks: []impl.Block{
				{Code: []int{0, 1, 2}, Term: impl.TmJump, Out: []impl.Edge{{To: 1, Args: []int{0, 2}}}},
				{Params: []int{3, 4}, Term: impl.TmIf, Args: []int{4}, Out: []impl.Edge{{To: 2}, {To: 3}}},
				{Code: []int{5, 6, 7}, Term: impl.TmJump, Out: []impl.Edge{{To: 1, Args: []int{5, 7}}}},
				{Code: []int{8, 9}, Term: impl.TmIf, Args: []int{9}, Out: []impl.Edge{{To: 4}, {To: 5}}},
				{Code: []int{10}, Term: impl.TmPanic, Args: []int{10}},
				{Code: []int{11, 12, 13}, Term: impl.TmJump, Out: []impl.Edge{{To: 6}}},
				{Term: impl.TmReturn},
			},
		}},
	}
	if fmt.Sprintf("%+v", u) != fmt.Sprintf("%+v", want) {
		t.Errorf("%s\nwant:\n%s", unitText(u), unitText(want))
	}
	for _, x := range []struct {
		input int
		want  string
	}{{0, "panic 4 in 10:"}, {1, "exit in 25: 1"}, {3, "exit in 49: 1"}} {
		if o := runWhole(t, u, []int{x.input}); outcomeText(o) != x.want {
			t.Errorf("with %d: %s, want %s", x.input, outcomeText(o), x.want)
		}
	}
}

// TestLowerOfSharedLists: a source may hold one list in two places; what comes of it has its own each time.
func TestLowerOfSharedLists(t *testing.T) {
	kids := []impl.Expr{ofTy(num(1), tyInt()), ofTy(num(2), tyInt())}
	sum := ofTy(bin(impl.BiDiv, kids[0], kids[1]), tyInt())
	sum.Kids = kids
	fields := []impl.Param{param("a", tyInt())}
	body := []impl.Stmt{plain(impl.StPrint, sum), set(typed(named("x"), tyInt(), 0), sum)}
	s := mainOf(declared("x", tyInt(), 0), choose(sum, body, body), loop(sum, body...))
	s.Structs = []impl.Struct{{Name: []byte("A"), Fields: fields}, {Name: []byte("B"), Fields: fields}}
	params := []impl.Param{param("x", tyInt()), param("y", tyInt())}
	s.Funcs = append(s.Funcs, function("f", params, impl.Ty{}), function("g", params, impl.Ty{}))
	was := deepText(s)
	u, ok := impl.Lower(s)
	if !ok || !impl.UnitOk(u) || deepText(s) != was {
		t.Fatalf("%v: %s", ok, unitText(u))
	}
	wantFresh(t, u, impl.Unit{})
	if want, _ := secondLowered(bared(s)); unitText(u) != want {
		t.Errorf("%s\nwant:\n%s", unitText(u), want)
	}
}

// TestUnitsAreTheCallers: what is done to a unit changes nothing in the source, nor in another unit of it.
func TestUnitsAreTheCallers(t *testing.T) {
	s := wellTyped(t, typedText)
	was := deepText(s)
	u, _ := impl.Lower(s)
	text := unitText(u)
	other, _ := impl.Lower(s)
	for i := range other.Fns {
		f := &other.Fns[i]
		for n := range f.Vals {
			f.Vals[n].Args = append(f.Vals[n].Args, 99)
			f.Vals[n].Args[0] = 77
		}
		for n := range f.Blocks {
			f.Blocks[n].Code = append(f.Blocks[n].Code, 99)
			f.Blocks[n].Params = append(f.Blocks[n].Params, 99)
			f.Blocks[n].Out = append(f.Blocks[n].Out, impl.Edge{To: 99})
		}
		f.Params = append(f.Params, tyFloat())
		f.Params[0] = tyPtrs(1)
	}
	for i := range other.Structs {
		other.Structs[i][0] = tyFloat()
	}
	third, ok := impl.Lower(s)
	if deepText(s) != was || unitText(u) != text || !ok || unitText(third) != text {
		t.Error("what was done to one unit is seen elsewhere")
	}
}

// TestLowerOfEmptyLists: an empty list and nil are the same value, in what is handed in.
func TestLowerOfEmptyLists(t *testing.T) {
	empty := typedSource()
	eachPart(empty, func(p *impl.Stmt) {
		p.Kids = append([]impl.Expr{}, p.Kids...)
		p.Body = append([]impl.Stmt{}, p.Body...)
		p.Else = append([]impl.Stmt{}, p.Else...)
	}, func(e *impl.Expr) {
		e.Name = append([]byte{}, e.Name...)
		e.Kids = append([]impl.Expr{}, e.Kids...)
	})
	got, ok := impl.Lower(empty)
	want, _ := lower(t, typedSource())
	if !ok || unitText(got) != unitText(want) {
		t.Errorf("%v: %s\nwant:\n%s", ok, unitText(got), unitText(want))
	}
}
