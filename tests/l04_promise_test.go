package tests

import (
	"testing"

	"loop.example/g00306/impl"
)

// TestManySourcesAreTyped is the promise, of sources that are well: they are told the types with which they were made.
func TestManySourcesAreTyped(t *testing.T) {
	numbers := spread(40000)
	taken, kinds := 0, map[string]int{}
	for round := range 400 {
		want := newTypedMaker(numbers, round*61).typedSource()
		s := bared(want)
		if !impl.SourceOk(s) {
			if _, code := check(t, s); code != impl.TypeForm || typedOk(t, want) {
				t.Errorf("what is no source is told %d", code)
			}
			continue
		}
		taken++
		countKinds(s, kinds)
		told, code := check(t, s)
		if code != impl.TypeWell || !sameSource(told, want) {
			t.Fatalf("%d: %s\nwant %s", code, show(told), show(want))
		}
		if countedParts(s) > 0 && exprCount(s) > 0 && sameSource(told, s) {
			t.Errorf("told without types: %s", show(s))
		}
	}
	if taken < 250 || len(kinds) != 22 {
		t.Errorf("only %d sources were taken, with these kinds: %v", taken, kinds)
	}
}

// exprCount counts expressions that have a type.
func exprCount(s impl.Source) int {
	count := 0
	for _, f := range s.Funcs {
		for _, p := range f.Body {
			for _, e := range p.Kids {
				if e.Kind != impl.ExCall {
					count++
				}
			}
		}
	}
	return count
}

// TestManySourcesAreToldACode asks of sources of all sorts, nearly none of which are well.
func TestManySourcesAreToldACode(t *testing.T) {
	numbers := spread(40000)
	for round := range 400 {
		s := newMaker(numbers, round*97).source()
		if _, code := check(t, s); code == impl.TypeForm != !impl.SourceOk(s) {
			t.Errorf("%d of %s", code, show(s))
		}
	}
}

// TestOnePartSpoilt puts another part into a source that is well: it is told one of the codes, each of them at times.
func TestOnePartSpoilt(t *testing.T) {
	numbers := spread(40000)
	codes := map[int]int{}
	for round := range 600 {
		m := newTypedMaker(numbers, round*53)
		s := bared(m.typedSource())
		spoilPart(m, s)
		_, code := check(t, s)
		codes[code]++
		if typedOk(t, s) && (code != impl.TypeWell || !sameSource(s, bared(s))) {
			t.Errorf("told %d, but TypedOk: %s", code, show(s))
		}
	}
	for code := impl.TypeWell; code <= impl.TypeClash; code++ {
		if codes[code] < 15 {
			t.Errorf("not enough of each code: %v", codes)
		}
	}
}

// spoilPart changes one part, or takes the last statement away.
func spoilPart(m *typedMaker, s impl.Source) {
	var exprs []*impl.Expr
	var stmts []*impl.Stmt
	eachPart(s, func(p *impl.Stmt) { stmts = append(stmts, p) }, func(e *impl.Expr) { exprs = append(exprs, e) })
	if len(exprs) == 0 {
		return
	}
	e, p := exprs[m.pick(len(exprs))], stmts[m.pick(len(stmts))]
	switch m.pick(7) {
	case 0:
		*e = float(1)
	case 1:
		*e = named("f6")
	case 2:
		e.N++
	case 3:
		e.Name = []byte("f7")
	case 4:
		*p = plain(impl.StReturn)
	case 5:
		*p = plain(impl.StPanic, num(1))
	case 6:
		f := &s.Funcs[m.pick(len(s.Funcs))]
		f.Body = f.Body[:len(f.Body)/2]
	}
}

// TestSameTypesEachTime asks twice, with other calls between.
func TestSameTypesEachTime(t *testing.T) {
	for _, text := range []string{typedText, "func main ( ) { print x ; }", "func main ( ) { return ; return ; }", "func main ( ) { print nil1 ( ) ; }", "func f ( ) { } func main ( ) { print f ( ) ; }"} {
		s := sourceOf(t, text)
		told, code := check(t, s)
		check(t, sourceOf(t, "func x ( x int ) int { var nil1 float ; return x ; } func nil1 ( ) { } func main ( ) { }"))
		again, c := check(t, s)
		if c != code || !sameSource(told, again) {
			t.Errorf("%q is answered otherwise the second time", text)
		}
	}
}
