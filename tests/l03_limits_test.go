package tests

import (
	"fmt"
	"strings"
	"testing"

	"loop.example/g00306/impl"
)

// wantLimit fails unless a source and its text are taken, or both refused, the text with ParseLong and 0.
func wantLimit(t *testing.T, what string, s impl.Source, text string, fits bool) {
	t.Helper()
	if fits {
		wantBothWays(t, s, text)
		return
	}
	refuse(t, what, s)
	wantTooMuch(t, what, text)
}

func wantTooMuch(t *testing.T, what string, text string) {
	t.Helper()
	if len(text) > impl.MaxProgram {
		t.Fatalf("%s: the text itself is too long", what)
	}
	if _, code, at := parse(t, text); code != impl.ParseLong || at != 0 {
		t.Errorf("%s: %d at %d", what, code, at)
	}
	// What can't stand somewhere counts ahead of limits, wherever it is.
	if _, code, at := parse(t, text+"}"); code != impl.ParseForm || at != len(text) {
		t.Errorf("%s, with something behind it: %d at %d", what, code, at)
	}
	if _, code, at := parse(t, text+"?"); code != impl.ParseByte || at != len(text) {
		t.Errorf("%s, with what is no token behind it: %d at %d", what, code, at)
	}
}

func TestMostStructs(t *testing.T) {
	for count := range 20 {
		var s impl.Source
		text := ""
		for n := range count {
			name := fmt.Sprint("S", n)
			s.Structs = append(s.Structs, structure(name, param("a", tyPtr(n))))
			text += "type " + name + " struct {\na * " + name + " ;\n}\n"
		}
		wantLimit(t, fmt.Sprint(count, " structs"), s, text, count <= impl.MaxStructs)
	}
}

func TestMostFields(t *testing.T) {
	for count := range 12 {
		own := structure("A")
		text := "type A struct {\n"
		for n := range count {
			name := fmt.Sprint("a", n)
			own.Fields = append(own.Fields, param(name, tyInts()))
			text += name + " [ ] int ;\n"
		}
		wantLimit(t, fmt.Sprint(count, " fields"), impl.Source{Structs: []impl.Struct{own}}, text+"}\n", count <= impl.MaxFields)
		wantLimit(t, fmt.Sprint(count, " fields of the second"), impl.Source{Structs: []impl.Struct{structure("B"), own}}, "type B struct {\n}\n"+text+"}\n", count <= impl.MaxFields)
	}
}

func TestMostFuncs(t *testing.T) {
	for count := range 20 {
		var s impl.Source
		text := ""
		for n := range count {
			name := fmt.Sprint("f", n)
			s.Funcs = append(s.Funcs, function(name, nil, impl.Ty{}))
			text += "func " + name + " ( ) {\n}\n"
		}
		wantLimit(t, fmt.Sprint(count, " functions"), s, text, count <= impl.MaxFuncs)
	}
}

func TestMostParams(t *testing.T) {
	for count := range 10 {
		var params []impl.Param
		var kids []impl.Expr
		var paramTexts, kidTexts []string
		for n := range count {
			name := fmt.Sprint("a", n)
			params = append(params, param(name, tyFloat()))
			kids = append(kids, num(n))
			paramTexts = append(paramTexts, name+" float ")
			kidTexts = append(kidTexts, fmt.Sprint(n)+" ")
		}
		within := strings.Join(paramTexts, ", ")
		wantLimit(t, fmt.Sprint(count, " Params"), impl.Source{Funcs: []impl.Func{function("f", params, impl.Ty{})}}, "func f ( "+within+") {\n}\n", count <= impl.MaxParams)
		within = strings.Join(kidTexts, ", ")
		wantLimit(t, fmt.Sprint(count, " Kids of do"), mainOf(plain(impl.StDo, call("f", kids...))), "func main ( ) {\ndo f ( "+within+") ;\n}\n", count <= impl.MaxParams)
		wantLimit(t, fmt.Sprint(count, " Kids of a call"), mainOf(plain(impl.StPrint, call("f", kids...))), "func main ( ) {\nprint f ( "+within+") ;\n}\n", count <= impl.MaxParams)
	}
}

func TestMostParts(t *testing.T) {
	for _, count := range []int{1, impl.MaxNodes - 1, impl.MaxNodes, impl.MaxNodes + 1, impl.MaxNodes + 2, 600} {
		fits := count <= impl.MaxNodes
		s := mainOf()
		for range count {
			s.Funcs[0].Body = append(s.Funcs[0].Body, plain(impl.StReturn))
		}
		wantLimit(t, fmt.Sprint(count, " statements"), s, "func main ( ) {\n"+strings.Repeat("return ;\n", count)+"}\n", fits)

		// Parts of several functions, blocks and expressions count together: a for, its Kid and the first function's return are three.
		if count < 4 {
			continue
		}
		half := (count - 3) / 2
		var body []impl.Stmt
		for range half {
			body = append(body, plain(impl.StPrint, read()))
		}
		text := "func f ( ) {\nreturn ;\n}\nfunc g ( ) {\nfor x {\n" + strings.Repeat("print read ;\n", half)
		if half*2 < count-3 {
			body = append(body, plain(impl.StReturn))
			text += "return ;\n"
		}
		s = impl.Source{Funcs: []impl.Func{function("f", nil, impl.Ty{}, plain(impl.StReturn)), function("g", nil, impl.Ty{}, loop(named("x"), body...))}}
		if countedParts(s) != count {
			t.Fatal("the source was made wrongly")
		}
		wantLimit(t, fmt.Sprint(count, " parts of all sorts"), s, text+"}\n}\n", fits)
	}
}

// nested is an expression so deep by a chain of one kind, with its text.
func nested(kind int, deep int) (impl.Expr, string) {
	e, text := named("x"), "x"
	for range deep - 1 {
		switch kind {
		case impl.ExField:
			e, text = field(e, "a"), text+" . a"
		case impl.ExIndex:
			e, text = index(e, num(0)), text+" [ 0 ]"
		case impl.ExLen:
			e, text = size(e), "len ( "+text+" )"
		case impl.ExCall:
			e, text = call("f", e), "f ( "+text+" )"
		case impl.ExMake:
			e, text = made(tyInts(), e), "make [ ] int ( "+text+" )"
		case impl.ExBin:
			e, text = bin(impl.BiAdd, num(1), e), "( 1 + "+text+" )"
		}
	}
	return e, text
}

func TestDeepestExpressions(t *testing.T) {
	for _, kind := range []int{impl.ExField, impl.ExIndex, impl.ExLen, impl.ExCall, impl.ExMake, impl.ExBin} {
		for _, deep := range []int{1, 2, impl.MaxDeep - 2, impl.MaxDeep - 1, impl.MaxDeep, impl.MaxDeep + 1, 60} {
			e, text := nested(kind, deep)
			fits := deep+1 <= impl.MaxDeep
			wantLimit(t, fmt.Sprint("kind ", kind, " so deep: ", deep), mainOf(plain(impl.StPrint, e)), "func main ( ) {\nprint "+text+" ;\n}\n", fits)
			wantLimit(t, fmt.Sprint("kind ", kind, " on the right: ", deep), mainOf(set(named("y"), e)), "func main ( ) {\ny = "+text+" ;\n}\n", fits)
			wantLimit(t, fmt.Sprint("kind ", kind, " behind if: ", deep), mainOf(choose(e, nil, nil)), "func main ( ) {\nif "+text+" {\n} else {\n}\n}\n", fits)
			if kind == impl.ExField || kind == impl.ExIndex {
				wantLimit(t, fmt.Sprint("kind ", kind, " on the left: ", deep), mainOf(set(e, num(1))), "func main ( ) {\n"+text+" = 1 ;\n}\n", fits)
			}
			if kind == impl.ExCall && deep > 1 {
				wantLimit(t, fmt.Sprint("behind do: ", deep), mainOf(plain(impl.StDo, e)), "func main ( ) {\ndo "+text+" ;\n}\n", fits)
			}
		}
	}
}

func TestDeepestStatements(t *testing.T) {
	for _, deep := range []int{1, 2, impl.MaxDeep - 1, impl.MaxDeep, impl.MaxDeep + 1, 50} {
		inLoops, loopText := plain(impl.StReturn), "return ;\n"
		inBodies, bodyText := inLoops, loopText
		inElses, elseText := inLoops, loopText
		for range deep - 1 {
			inLoops, loopText = loop(num(1), inLoops), "for 1 {\n"+loopText+"}\n"
			inBodies, bodyText = choose(num(1), []impl.Stmt{inBodies}, nil), "if 1 {\n"+bodyText+"} else {\n}\n"
			inElses, elseText = choose(num(1), nil, []impl.Stmt{inElses}), "if 1 {\n} else {\n"+elseText+"}\n"
		}
		wantLimit(t, fmt.Sprint("for so deep: ", deep), mainOf(inLoops), "func main ( ) {\n"+loopText+"}\n", deep <= impl.MaxDeep)
		wantLimit(t, fmt.Sprint("Body so deep: ", deep), mainOf(inBodies), "func main ( ) {\n"+bodyText+"}\n", deep <= impl.MaxDeep)
		wantLimit(t, fmt.Sprint("Else so deep: ", deep), mainOf(inElses), "func main ( ) {\n"+elseText+"}\n", deep <= impl.MaxDeep)
	}
	// A Kid of the deepest statement is one deeper.
	deepest, text := plain(impl.StPrint, num(1)), "print 1 ;\n"
	for range impl.MaxDeep - 2 {
		deepest, text = loop(num(1), deepest), "for 1 {\n"+text+"}\n"
	}
	wantLimit(t, "the deepest print", mainOf(deepest), "func main ( ) {\n"+text+"}\n", true)
	wantLimit(t, "a print one deeper", mainOf(loop(num(1), deepest)), "func main ( ) {\nfor 1 {\n"+text+"}\n}\n", false)
}

// ofSize is a source whose text has just so many bytes, with that text.
func ofSize(bytes int) (impl.Source, string) {
	const head, foot = "func main ( ) {\n", "}\n"
	s, text := mainOf(), head
	add := func(size int) {
		name := strings.Repeat("a", size-len("var  int ;\n"))
		s.Funcs[0].Body = append(s.Funcs[0].Body, declare(name, tyInt()))
		text += "var " + name + " int ;\n"
	}
	left := bytes - len(head) - len(foot)
	for left > 19+24 {
		add(19)
		left -= 19
	}
	if left > 38 {
		add(13)
		left -= 13
	}
	add(left / 2)
	add(left - left/2)
	return s, text + foot
}

func TestLongestTexts(t *testing.T) {
	for bytes := impl.MaxProgram - 40; bytes <= impl.MaxProgram+40; bytes++ {
		s, text := ofSize(bytes)
		if len(text) != bytes {
			t.Fatalf("the text was made wrongly: %d, not %d", len(text), bytes)
		}
		parts := countedParts(s)
		if parts > impl.MaxNodes {
			t.Fatal("too many parts")
		}
		if impl.Nodes(s) != parts {
			t.Errorf("%d bytes: Nodes is %d, not %d", bytes, impl.Nodes(s), parts)
		}
		if bytes <= impl.MaxProgram {
			wantBothWays(t, s, text)
			continue
		}
		if _, ok := printed(t, s); ok {
			t.Errorf("a source with a text of %d bytes is taken", bytes)
		}
		// The text itself is too long, and so is what a shorter form of it comes to.
		if _, code, at := parse(t, text); code != impl.ParseLong || at != 0 {
			t.Errorf("%d bytes: %d at %d", bytes, code, at)
		}
		wantTooMuch(t, fmt.Sprint("a text that would print as ", bytes, " bytes"), compact(text))
	}
}

func TestNodesOfMuchText(t *testing.T) {
	s := mainOf()
	for range impl.MaxNodes {
		s.Funcs[0].Body = append(s.Funcs[0].Body, declare("abcdefgh", tyInts()))
	}
	if impl.SourceOk(s) || impl.Nodes(s) != impl.MaxNodes {
		t.Errorf("a source whose text alone is too long has %d parts, SourceOk %v", impl.Nodes(s), impl.SourceOk(s))
	}
	if text, ok := impl.Print(s); ok || len(text) != 0 {
		t.Error("it is printed")
	}
	s.Funcs[0].Body = append(s.Funcs[0].Body, declare("abcdefgh", tyInts()))
	refuse(t, "one part more", s)
}

// TestSourcesThatHoldThemselves asks of trees without an end, or with one part very many times.
func TestSourcesThatHoldThemselves(t *testing.T) {
	round := make([]impl.Expr, 1)
	round[0] = impl.Expr{Kind: impl.ExLen, Kids: round}
	blocks := make([]impl.Stmt, 2)
	blocks[0] = impl.Stmt{Kind: impl.StFor, Kids: []impl.Expr{num(1)}, Body: blocks}
	blocks[1] = impl.Stmt{Kind: impl.StIf, Kids: []impl.Expr{num(1)}, Body: blocks, Else: blocks}
	twice := num(1)
	for range 28 {
		twice = bin(impl.BiAdd, twice, twice)
	}
	for _, s := range []impl.Source{mainOf(plain(impl.StPrint, round[0])), mainOf(blocks...), mainOf(plain(impl.StPrint, twice))} {
		text, ok := impl.Print(s)
		if ok || len(text) != 0 || impl.SourceOk(s) || impl.Nodes(s) != 0 {
			t.Error("it is taken")
		}
	}
}

// TestParseOfVeryDeepTexts nests as deep as a text can.
func TestParseOfVeryDeepTexts(t *testing.T) {
	for _, piece := range []string{"(", "len(", "f(", "x[", "make[]int("} {
		head := "func main(){print "
		text := head + strings.Repeat(piece, (impl.MaxProgram-len(head))/len(piece))
		if _, code, at := parse(t, text); code != impl.ParseForm || at != len(text) {
			t.Errorf("%q: %d at %d", piece, code, at)
		}
	}
	for _, text := range []string{
		"func main(){print x" + strings.Repeat(".a", 2900) + ";}", "func main(){print x" + strings.Repeat("[0]", 1900) + ";}",
		"func main(){print " + strings.Repeat("(", 1400) + "1" + strings.Repeat("+1)", 1400) + ";}", "func main(){" + strings.Repeat("for 1{", 800) + strings.Repeat("}", 800) + "}",
		"func main(){" + strings.Repeat("if 1{}else{", 400) + strings.Repeat("}", 400) + "}", "func f(" + strings.Repeat("a int,", 900) + "a int){}", "func main(){do f(" + strings.Repeat("1,", 2900) + "1);}",
		"type A struct{" + strings.Repeat("a int;", 900) + "}", strings.Repeat("func f(){}", 500), "func main(){" + strings.Repeat("return;", 800) + "}",
	} {
		wantTooMuch(t, text[:30], text)
	}
}
