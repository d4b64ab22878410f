package tests

import (
	"fmt"
	"testing"

	"loop.example/g00306/impl"
)

// operand is an expression with its type; TyNone is that of a call without a result.
type operand struct {
	e  impl.Expr
	ty impl.Ty
}

// operands are one of each type, over the structs of world, and one without.
func operands() []operand {
	return []operand{
		{call("none"), impl.Ty{}},
		{named("i"), tyInt()}, {named("f"), tyFloat()}, {named("a"), tyPtr(0)}, {named("b"), tyPtr(1)},
		{named("is"), tyInts()}, {named("fs"), tyFloats()}, {named("as"), tyPtrs(0)}, {named("bs"), tyPtrs(1)},
	}
}

// otherOperands are of other kinds of expressions.
func otherOperands() []operand {
	return []operand{
		{num(-3), tyInt()}, {read(), tyInt()}, {float(2), tyFloat()}, {null(0), tyPtr(0)}, {null(1), tyPtr(1)}, {fresh(0), tyPtr(0)}, {fresh(1), tyPtr(1)},
		{made(tyInts(), num(1)), tyInts()}, {made(tyFloats(), num(1)), tyFloats()}, {made(tyPtrs(0), num(1)), tyPtrs(0)}, {made(tyPtrs(1), num(1)), tyPtrs(1)},
		{call("back", num(1)), tyPtr(1)}, {call("list", fresh(0), float(1), made(tyPtrs(1), num(2)), num(3)), tyFloats()},
		{field(fresh(0), "i"), tyInt()}, {field(fresh(1), "i"), tyFloat()}, {field(fresh(1), "a"), tyPtr(0)}, {field(fresh(0), "is"), tyInts()}, {field(fresh(1), "as"), tyPtrs(0)},
		{index(named("is"), num(0)), tyInt()}, {index(named("fs"), num(0)), tyFloat()}, {index(named("as"), num(0)), tyPtr(0)}, {index(named("bs"), num(0)), tyPtr(1)},
		{size(named("fs")), tyInt()}, {toInt(named("f")), tyInt()}, {toFloat(named("i")), tyFloat()}, {bin(impl.BiRem, num(1), num(2)), tyInt()}, {bin(impl.BiMul, float(1), float(2)), tyFloat()}, {bin(impl.BiLess, float(1), float(2)), tyInt()}, {bin(impl.BiSame, null(0), fresh(0)), tyInt()},
	}
}

// world is a source with variables of every type in main, with these statements behind them. Fields of its structs have the same names at other places and of other types.
func world(body ...impl.Stmt) impl.Source {
	return impl.Source{
		Structs: []impl.Struct{
			structure("A", param("i", tyInt()), param("f", tyFloat()), param("a", tyPtr(0)), param("is", tyInts()), param("fs", tyFloats())),
			structure("B", param("i", tyFloat()), param("b", tyPtr(1)), param("as", tyPtrs(0)), param("a", tyPtr(0)), param("bs", tyPtrs(1))),
		},
		Funcs: []impl.Func{
			function("none", nil, impl.Ty{}),
			function("main", nil, impl.Ty{}, append([]impl.Stmt{
				declare("i", tyInt()), declare("f", tyFloat()), declare("a", tyPtr(0)), declare("b", tyPtr(1)), declare("is", tyInts()), declare("fs", tyFloats()), declare("as", tyPtrs(0)), declare("bs", tyPtrs(1))}, body...)...),
			function("back", []impl.Param{param("n", tyInt())}, tyPtr(1), plain(impl.StReturn, fresh(1))),
			function("list", []impl.Param{param("a", tyPtr(0)), param("f", tyFloat()), param("bs", tyPtrs(1)), param("i", tyInt())}, tyFloats(), plain(impl.StReturn, made(tyFloats(), named("i")))),
		},
	}
}

// last is the last statement of main.
func last(s impl.Source) impl.Stmt {
	body := s.Funcs[1].Body
	return body[len(body)-1]
}

// wantTy fails unless e has just this type, TyNone being none: it can be set to a variable of that type alone, and is told the type there.
func wantTy(t *testing.T, e impl.Expr, want impl.Ty) {
	t.Helper()
	for _, to := range operands()[1:] {
		s := world(set(to.e, e))
		told, code := impl.Check(s)
		if fits := want == to.ty; fits != (code == impl.TypeWell) || !fits && code != impl.TypeClash {
			t.Errorf("%+v set to %+v: %d, its type is %+v", e, to.ty, code, want)
		} else if fits {
			wantTold(t, s, told)
			if got := last(told).Kids[1].Ty; got != want {
				t.Errorf("%+v is told %+v", e, got)
			}
		}
	}
}

// elementOf is what a list is a list of; TyNone where it is no list.
func elementOf(ty impl.Ty) impl.Ty {
	switch ty.Kind {
	case impl.TyInts:
		return tyInt()
	case impl.TyFloats:
		return tyFloat()
	case impl.TyPtrs:
		return tyPtr(ty.N)
	}
	return impl.Ty{}
}

func isListTy(ty impl.Ty) bool {
	return ty == tyInts() || ty == tyFloats() || ty.Kind == impl.TyPtrs
}

// tyIf is the type where something holds, else none.
func tyIf(holds bool, ty impl.Ty) impl.Ty {
	if holds {
		return ty
	}
	return impl.Ty{}
}

func TestTypesOfPlainExpressions(t *testing.T) {
	for _, k := range append(operands(), otherOperands()...) {
		wantTy(t, k.e, k.ty)
	}
}

func TestTypesOfOneKid(t *testing.T) {
	for _, k := range append(operands(), otherOperands()...) {
		for _, list := range []impl.Ty{tyInts(), tyFloats(), tyPtrs(0), tyPtrs(1)} {
			wantTy(t, made(list, k.e), tyIf(k.ty == tyInt(), list))
		}
		wantTy(t, size(k.e), tyIf(isListTy(k.ty), tyInt()))
		wantTy(t, toInt(k.e), tyIf(k.ty == tyFloat(), tyInt()))
		wantTy(t, toFloat(k.e), tyIf(k.ty == tyInt(), tyFloat()))
	}
}

func TestTypesOfIndexes(t *testing.T) {
	for _, k := range append(operands(), otherOperands()...) {
		for _, l := range operands() {
			wantTy(t, index(k.e, l.e), tyIf(l.ty == tyInt(), elementOf(k.ty)))
		}
		// What is in a list is no list.
		wantTy(t, index(index(k.e, num(0)), num(0)), impl.Ty{})
		wantTy(t, size(index(k.e, num(0))), impl.Ty{})
	}
}

// binWant says of two types what the document's row of ExBin does.
func binWant(op int, k impl.Ty, l impl.Ty) impl.Ty {
	switch {
	case k == tyInt() && l == tyInt():
		return tyInt()
	case k == tyFloat() && l == tyFloat() && (op == impl.BiLess || op == impl.BiSame):
		return tyInt()
	case k == tyFloat() && l == tyFloat() && op != impl.BiRem:
		return tyFloat()
	case k.Kind == impl.TyPtr && l.Kind == impl.TyPtr && k.N == l.N && op == impl.BiSame:
		return tyInt()
	}
	return impl.Ty{}
}

func TestTypesOfOps(t *testing.T) {
	for op := impl.BiAdd; op <= impl.BiSame; op++ {
		for _, k := range operands() {
			for _, l := range operands() {
				wantTy(t, bin(op, k.e, l.e), binWant(op, k.ty, l.ty))
			}
		}
		for _, k := range otherOperands() {
			wantTy(t, bin(op, k.e, k.e), binWant(op, k.ty, k.ty))
		}
	}
}

func TestTypesOfFields(t *testing.T) {
	fields := world().Structs
	for _, k := range append(operands(), otherOperands()...) {
		for _, name := range []string{"i", "f", "a", "b", "is", "fs", "as", "bs", "none", "main", "x", "n"} {
			want, place := impl.Ty{}, 0
			if k.ty.Kind == impl.TyPtr {
				for i, f := range fields[k.ty.N].Fields {
					if string(f.Name) == name {
						want, place = f.Ty, i
					}
				}
			}
			wantTy(t, field(k.e, name), want)
			if want.Kind == impl.TyNone {
				continue
			}
			told, _ := impl.Check(world(set(field(k.e, name), field(k.e, name))))
			for _, side := range last(told).Kids {
				if side.N != place || side.Ty != want {
					t.Errorf("the field %s of %+v is told the place %d and %+v", name, k.ty, side.N, side.Ty)
				}
			}
		}
	}
}

func TestTypesOfCalls(t *testing.T) {
	wantTy(t, call("back"), impl.Ty{})
	wantTy(t, call("back", num(1), num(2)), impl.Ty{})
	wantTy(t, call("none"), impl.Ty{})
	wantTy(t, call("main"), impl.Ty{})
	well := func() []impl.Expr { return []impl.Expr{named("a"), named("f"), named("bs"), named("i")} }
	wantTy(t, call("list", well()...), tyFloats())
	wantTy(t, call("list", well()[:3]...), impl.Ty{})
	wantTy(t, call("list"), impl.Ty{})
	for _, k := range append(operands(), otherOperands()...) {
		wantTy(t, call("none", k.e), impl.Ty{})
		wantTy(t, call("main", k.e), impl.Ty{})
		wantTy(t, call("back", k.e), tyIf(k.ty == tyInt(), tyPtr(1)))
		wantTy(t, call("back", k.e, num(1)), impl.Ty{})
		for at, want := range []impl.Ty{tyPtr(0), tyFloat(), tyPtrs(1), tyInt()} {
			args := well()
			args[at] = k.e
			wantTy(t, call("list", args...), tyIf(k.ty == want, tyFloats()))
			wantStmt(t, plain(impl.StDo, call("list", args...)), k.ty == want)
		}
	}
	// In another order.
	wantTy(t, call("list", named("i"), named("bs"), named("f"), named("a")), impl.Ty{})
}

// wantStmt fails unless a statement in main is well, or has no type.
func wantStmt(t *testing.T, s impl.Stmt, well bool) {
	t.Helper()
	told, code := impl.Check(world(s))
	if well && code != impl.TypeWell || !well && code != impl.TypeClash {
		t.Errorf("%d of %+v", code, s)
	}
	if code == impl.TypeWell {
		wantTold(t, world(s), told)
	}
}

func TestTypesOfStatements(t *testing.T) {
	for _, k := range append(operands(), otherOperands()...) {
		isInt := k.ty == tyInt()
		wantStmt(t, choose(k.e, nil, nil), isInt)
		wantStmt(t, loop(k.e), isInt)
		wantStmt(t, plain(impl.StPanic, k.e), isInt)
		wantStmt(t, plain(impl.StPrint, k.e), isInt || k.ty == tyFloat())
		wantStmt(t, plain(impl.StReturn, k.e), false)
		for _, around := range []func(...impl.Stmt) impl.Stmt{
			func(list ...impl.Stmt) impl.Stmt { return loop(num(1), list...) },
			func(list ...impl.Stmt) impl.Stmt { return choose(num(1), list, nil) },
			func(list ...impl.Stmt) impl.Stmt { return choose(num(1), nil, list) },
		} {
			wantStmt(t, around(plain(impl.StPanic, k.e)), isInt)
			wantStmt(t, around(around(choose(k.e, nil, nil))), isInt)
			wantStmt(t, around(plain(impl.StReturn, k.e)), false)
		}
	}
	wantStmt(t, plain(impl.StReturn), true)
}

func TestTypesOfSets(t *testing.T) {
	lefts := operands()[1:]
	for _, k := range otherOperands() {
		if k.e.Kind == impl.ExField || k.e.Kind == impl.ExIndex {
			lefts = append(lefts, k)
		}
	}
	for _, k := range lefts {
		for _, l := range append(operands(), otherOperands()...) {
			wantStmt(t, set(k.e, l.e), k.ty == l.ty)
		}
	}
	// A left side has to have a type itself.
	for _, l := range operands() {
		wantStmt(t, set(field(named("i"), "i"), l.e), false)
		wantStmt(t, set(field(call("none"), "i"), l.e), false)
		wantStmt(t, set(index(named("a"), num(0)), l.e), false)
		wantStmt(t, set(index(named("is"), float(0)), l.e), false)
		wantStmt(t, set(index(call("none"), num(0)), l.e), false)
	}
}

func TestTypesOfDo(t *testing.T) {
	wantStmt(t, plain(impl.StDo, call("none")), true)
	wantStmt(t, plain(impl.StDo, call("main")), true)
	wantStmt(t, plain(impl.StDo, call("back", num(1))), true)
	wantStmt(t, plain(impl.StDo, call("list", null(0), float(1), made(tyPtrs(1), num(1)), read())), true)
	wantStmt(t, plain(impl.StDo, call("none", num(1))), false)
	wantStmt(t, plain(impl.StDo, call("back")), false)
	wantStmt(t, plain(impl.StDo, call("back", call("none"))), false)
	wantStmt(t, plain(impl.StDo, call("back", call("back", num(1)))), false)
	wantStmt(t, plain(impl.StDo, call("back", size(call("none")))), false)
}

func TestTypesOfReturns(t *testing.T) {
	results := []impl.Ty{{}, tyInt(), tyFloat(), tyPtr(0), tyPtr(1), tyInts(), tyFloats(), tyPtrs(0), tyPtrs(1)}
	for _, res := range results {
		// A result is asked for in each block of a function.
		for _, around := range []func(impl.Stmt) []impl.Stmt{
			func(s impl.Stmt) []impl.Stmt { return []impl.Stmt{s} },
			func(s impl.Stmt) []impl.Stmt { return []impl.Stmt{loop(num(1), s), plain(impl.StPanic, num(1))} },
			func(s impl.Stmt) []impl.Stmt {
				return []impl.Stmt{choose(num(1), []impl.Stmt{plain(impl.StPanic, num(1))}, []impl.Stmt{s})}
			},
		} {
			want := func(well bool, kids ...impl.Expr) {
				t.Helper()
				s := world()
				vars := s.Funcs[1].Body
				s.Funcs = append(s.Funcs, function("of", nil, res, append(vars, around(plain(impl.StReturn, kids...))...)...))
				if _, code := check(t, s); well && code != impl.TypeWell || !well && code != impl.TypeClash {
					t.Errorf("return %+v of %+v: %d", kids, res, code)
				}
			}
			want(res == impl.Ty{})
			for _, k := range append(operands(), otherOperands()...) {
				want(k.ty == res && res != impl.Ty{}, k.e)
			}
		}
	}
}

// TestStructsInTypes: pointers and lists are of one type only where they are of one struct, whatever its fields.
func TestStructsInTypes(t *testing.T) {
	const heads = "type A struct { a int ; } type B struct { a int ; } type C struct { c * B ; cs [ ] * A ; }"
	wantCodeInMain(t, impl.TypeWell, heads,
		"var a * A ; a = new A ; a . a = 1 ;", "var c * C ; c . c = new B ; c . cs [ 0 ] = new A ; print c . c . a ; print c . cs [ 1 ] . a ;", "print ( nil A == new A ) ;", "print ( nil C . c == nil B ) ;", "print len ( nil C . cs ) ;",
		"var as [ ] * A ; as = nil C . cs ; as [ 0 ] = as [ 1 ] ; print as [ 2 ] . a ;",
	)
	wantCodeInMain(t, impl.TypeClash, heads,
		"var a * A ; a = new B ;", "var a * A ; a = nil B ;", "print ( nil A == nil B ) ;", "print ( nil A < nil A ) ;", "print ( nil A + nil A ) ;", "var c * C ; c . c = new A ;", "var c * C ; c . cs [ 0 ] = new B ;", "var as [ ] * A ; as = make [ ] * B ( 1 ) ;",
		"print nil C . a ;", "print nil A . c . a ;", "print nil C . cs . a ;", "print nil C . cs [ 0 ] . c ;", "var c * C ; c . c . c = nil B ;", "print ( make [ ] int ( 1 ) == make [ ] int ( 1 ) ) ;", "print ( nil C . cs == nil C . cs ) ;", "print make [ ] int ( 1 ) [ 0 ] [ 0 ] ;",
	)
}

// TestManyClashesAtOnce: the code is one, however many parts have no type.
func TestManyClashesAtOnce(t *testing.T) {
	var body []impl.Stmt
	for _, k := range operands() {
		body = append(body, plain(impl.StPrint, bin(impl.BiRem, k.e, float(1))), set(named("i"), toInt(k.e)))
	}
	for n := 1; n <= len(body); n++ {
		told, code := check(t, world(body[:n]...))
		if code != impl.TypeClash {
			t.Errorf("%d clashes: %d, %s", n, code, fmt.Sprint(told))
		}
	}
}
