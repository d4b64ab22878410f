package tests

import (
	"strings"
	"testing"

	"loop.example/g00306/impl"
)

// check asks Check, and fails if that writes into the source, hands out its memory, or the other functions do not agree.
func check(t *testing.T, s impl.Source) (impl.Source, int) {
	t.Helper()
	full := roomy(s)
	was := deepText(full)
	told, code := impl.Check(full)
	wantFresh(t, told, full)
	wantSteps(t, full, code)
	if code == impl.TypeWell {
		wantTold(t, s, told)
	} else if !sameSource(told, impl.Source{}) {
		t.Errorf("refused by %d, but told %s", code, show(told))
	}
	if deepText(full) != was {
		t.Errorf("something was written into %s", was)
	}
	return told, code
}

// wantSteps fails unless the functions that look at less take what the code says that they do.
func wantSteps(t *testing.T, s impl.Source, code int) {
	t.Helper()
	names := code != impl.TypeForm && code != impl.TypeName
	flow := names && code != impl.TypeFlow
	if impl.SourceOk(s) != (code != impl.TypeForm) || impl.NamesOk(s) != names || impl.FlowOk(s) != flow {
		t.Errorf("the code %d, but %v, %v, %v of %s", code, impl.SourceOk(s), impl.NamesOk(s), impl.FlowOk(s), show(s))
	}
	if code < impl.TypeWell || code > impl.TypeClash {
		t.Errorf("the code %d of %s", code, show(s))
	}
}

// wantTold fails unless what was told is the source but for its types, and TypedOk.
func wantTold(t *testing.T, s impl.Source, told impl.Source) {
	t.Helper()
	if bare := bared(told); !sameSource(bare, s) {
		t.Errorf("told of another source: %s\nnot of %s", show(bare), show(s))
	}
	if !typedOk(t, told) {
		t.Errorf("told, but not TypedOk: %s", show(told))
	}
	if again, code := impl.Check(bared(told)); code != impl.TypeWell || !sameSource(again, told) {
		t.Errorf("told once more, by %d: %s\nat first: %s", code, show(again), show(told))
	}
}

// typedOk asks TypedOk, and fails if that writes into the source.
func typedOk(t *testing.T, s impl.Source) bool {
	t.Helper()
	full := roomy(s)
	was := deepText(full)
	ok := impl.TypedOk(full)
	if deepText(full) != was {
		t.Errorf("something was written into %s", was)
	}
	return ok
}

// bared is a copy without what Check puts in.
func bared(s impl.Source) impl.Source {
	s = roomy(s)
	eachPart(s, func(p *impl.Stmt) {
		if p.Kind == impl.StVar {
			p.N = 0
		}
	}, func(e *impl.Expr) {
		switch e.Kind {
		case impl.ExVar, impl.ExCall, impl.ExField:
			e.N = 0
		}
		if e.Kind != impl.ExMake {
			e.Ty = impl.Ty{}
		}
	})
	return s
}

// eachPart goes through all parts, as the text does.
func eachPart(s impl.Source, stmt func(*impl.Stmt), expr func(*impl.Expr)) {
	var exprs func([]impl.Expr)
	exprs = func(list []impl.Expr) {
		for i := range list {
			expr(&list[i])
			exprs(list[i].Kids)
		}
	}
	var stmts func([]impl.Stmt)
	stmts = func(list []impl.Stmt) {
		for i := range list {
			stmt(&list[i])
			exprs(list[i].Kids)
			stmts(list[i].Body)
			stmts(list[i].Else)
		}
	}
	for _, f := range s.Funcs {
		stmts(f.Body)
	}
}

// sourceOf is the source of a text that has one.
func sourceOf(t *testing.T, text string) impl.Source {
	t.Helper()
	s, code, at := impl.Parse([]byte(text))
	if code != impl.ParseWell {
		t.Fatalf("%q is refused by %d at %d", text, code, at)
	}
	return s
}

// wantCode fails unless each text is that of a source that is told the code.
func wantCode(t *testing.T, want int, texts ...string) {
	t.Helper()
	for _, text := range texts {
		if _, code := check(t, sourceOf(t, text)); code != want {
			t.Errorf("%q: %d, want %d", text, code, want)
		}
	}
}

// wantCodeInMain is wantCode of texts of statements, with some functions ahead.
func wantCodeInMain(t *testing.T, want int, heads string, texts ...string) {
	t.Helper()
	for _, text := range texts {
		wantCode(t, want, heads+" func main ( ) { "+text+" }")
	}
}

// numbersOf tells the numbers of variables of a function as a text, in the order in which they stand there: name and number.
func numbersOf(s impl.Source, at int) string {
	one := impl.Source{Structs: s.Structs, Funcs: s.Funcs[at : at+1]}
	var list []string
	eachPart(one, func(p *impl.Stmt) {
		if p.Kind == impl.StVar {
			list = append(list, "var", string(p.Name), string(rune('0'+p.N)))
		}
	}, func(e *impl.Expr) {
		if e.Kind == impl.ExVar {
			list = append(list, string(e.Name), string(rune('0'+e.N)))
		}
	})
	return strings.Join(list, " ")
}
