package tests

import (
	"strings"
	"testing"

	"loop.example/g00306/impl"
)

// wantForm fails unless each text, without its only @, is refused with ParseForm at the place of that.
func wantForm(t *testing.T, list ...string) {
	t.Helper()
	for _, marked := range list {
		wantPlace(t, marked, impl.ParseForm)
	}
}

func TestPlacesAtTheTop(t *testing.T) {
	wantForm(t,
		"@x", "@1", "@;", "@struct", "@A", "@var x int ;", "@{ }", "@0f0000000000000000", "@if",
		"type@", "type @a struct { }", "type @int struct { }", "type @1 struct { }", "type @{ }", "type A@", "type A @{ }", "type A @func", "type A @B struct { }", "type A struct@", "type A struct @( )",
		"type A struct {@", "type A struct { } @x", "type A struct { } @;", "type A struct { } @}", "type A struct { }\n@var",
		"func@", "func @if ( ) { }", "func @A ( ) { }", "func @1 ( ) { }", "func @( ) { }", "func f@", "func f @{ }", "func f @, ( )", "func f (@", "func f ( )@", "func f ( ) @;", "func f ( ) @x { }", "func f ( ) {@",
		"func f ( ) { } @x", "func f ( ) { } @}", "func f ( ) { } @;", "func f ( ) { } @1", "func f ( ) { } @var x int ;", "func f ( ) { } @( )", "func f ( ) { } func g ( ) { } @else",
		// A struct behind a function.
		"func f ( ) { } @type A struct { }", "type A struct { } func f ( ) { } @type B struct { }", "func f ( ) { }\nfunc g ( ) { }\n@type A struct { }",
	)
}

func TestPlacesInStructs(t *testing.T) {
	wantForm(t,
		"type A struct { @; }", "type A struct { @A int ; }", "type A struct { @int int ; }", "type A struct { @struct int ; }", "type A struct { @1 int ; }",
		"type A struct { a@", "type A struct { a @; }", "type A struct { a @a ; }", "type A struct { a @A ; }", "type A struct { a int@", "type A struct { a int @}", "type A struct { a int @, b int ; }", "type A struct { a int @b int ; }",
		"type A struct { a int ;@", "type A struct { a int ; @; }", "type A struct { a *@", "type A struct { a * @int ; }", "type A struct { a * @a ; }", "type A struct { a * @* A ; }",
	)
}

func TestPlacesOfTypes(t *testing.T) {
	for _, head := range []string{"type A struct { a ", "type A struct { } func f ( a ", "type A struct { } func f ( ) ", "type A struct { } func f ( ) { var x "} {
		for _, rest := range []string{
			"@", "*@", "* @int", "* @B", "* @a", "* @1", "* @*", "* @[", "[@", "[ @int", "[ @1 ] int", "[ ]@", "[ ] @;", "[ ] @A", "[ ] @[ ] int", "[ ] @float1", "[ ] *@", "[ ] * @B", "[ ] * @int", "[ ] * @[",
			"@]", "@A", "@a", "@1", "@nil", "@struct", "@(", "@-", "@==",
		} {
			wantForm(t, head+rest)
		}
	}
	for _, head := range []string{"type A struct { } func f ( ) { print make ", "type A struct { } func f ( ) { x = make "} {
		for _, rest := range []string{"@", "@int ( 1 )", "@float ( 1 )", "@* A ( 1 )", "@A ( 1 )", "@( 1 )", "@x", "[@", "[ @1", "[ ]@", "[ ] @x", "[ ] @[ ] int ( 1 )", "[ ] *@", "[ ] * @B", "[ ] int@", "[ ] int @;", "[ ] int @1", "[ ] int (@", "[ ] int ( @)", "[ ] int ( 1@", "[ ] int ( 1 @, 2 )", "[ ] * A ( 1 @;"} {
			wantForm(t, head+rest)
		}
	}
}

func TestStructNames(t *testing.T) {
	wantForm(t,
		"type A struct { } type @A struct { }", "type A struct { } type B struct { } type @A struct { }", "type A struct { } type B struct { } type @B struct { }",
		"type A struct { a * @B ; } type B struct { }", "type A struct { a [ ] * @B ; } type B struct { }", "type A struct { a * A ; b * @B ; }",
		"func f ( a * @A ) { }", "func f ( ) * @A { }", "func f ( ) { var a * @A ; }", "func f ( ) { print nil @A ; }", "func f ( ) { print new @A ; }",
		"type A struct { } func f ( ) { print nil @B ; }", "type A struct { } func f ( ) { print new @x ; }", "type A struct { } func f ( ) { print new @1 ; }", "type A struct { } func f ( ) { print nil @; }",
		"type A struct { } func f ( ) { print new@", "type A struct { } func f ( ) { print nil@", "type A struct { } func f ( ) { print new @int ; }",
		"type A struct { } func f ( ) { print nil A @B ; }", "type A struct { } func f ( ) { print nil A @( ) ; }",
	)
	// A struct that names itself, one ahead, and one further ahead.
	s := impl.Source{Structs: []impl.Struct{structure("A", param("a", tyPtr(0))), structure("B", param("a", tyPtr(0)), param("b", tyPtrs(1))), structure("C", param("a", tyPtrs(0)), param("c", tyPtr(2)))}}
	wantBothWays(t, s, lines("type A struct {", "a * A ;", "}", "type B struct {", "a * A ;", "b [ ] * B ;", "}", "type C struct {", "a [ ] * A ;", "c * C ;", "}"))
	// Names of structs that begin or end alike are unlike.
	s = impl.Source{Structs: []impl.Struct{structure("A"), structure("Aa"), structure("A1")}, Funcs: []impl.Func{function("f", nil, tyPtr(2), plain(impl.StReturn, fresh(1)))}}
	wantBothWays(t, s, lines("type A struct {", "}", "type Aa struct {", "}", "type A1 struct {", "}", "func f ( ) * A1 {", "return new Aa ;", "}"))
}

func TestPlacesOfParams(t *testing.T) {
	wantForm(t,
		"func f ( @, ) { }", "func f ( a@", "func f ( a @) { }", "func f ( a @, b int ) { }", "func f ( a int@", "func f ( a int @b int ) { }", "func f ( a int @; b int ) { }", "func f ( a int @{ }", "func f ( a int ,@", "func f ( a int , @) { }", "func f ( a int , @, ) { }",
		"func f ( a int , @int ) { }", "func f ( a int , b @) { }", "func f ( @int a ) { }", "func f ( @A int ) { }", "func f ( @( ) ) { }", "func f ( a int ) @) { }", "func f ( ) int @int { }", "func f ( ) int@", "func f ( ) int @; { }",
	)
}

// inMain are texts, each a beginning of main's Body; they have an @.
func inMain(list ...string) []string {
	var back []string
	for _, text := range list {
		back = append(back, "type A struct { } func main ( ) { "+text)
	}
	return back
}

func TestPlacesInStatements(t *testing.T) {
	wantForm(t, inMain(
		"@", "@;", "@else { }", "@type", "@struct", "@func", "@{ }", "@)", "@A = 1 ;", "@= 1 ;", "@== 1", "@- 1 = 2", "@[ ] = 1",
		"var@", "var @A int ;", "var @if int ;", "var @1 int ;", "var @; ", "var x@", "var x @; }", "var x @= 1 ;", "var x int@", "var x int @}", "var x int @= 1 ;", "var x int @, y int ;",
		"x@", "x @; }", "x @x", "x @== 1 ;", "x @+ 1 ;", "x @1", "x @}", "x =@", "x = @;", "x = @= 1 ;", "x = 1@", "x = 1 @}", "x = 1 @= 2 ;", "x = 1 @2 ;", "x = 1 @+ 2 ;", "x = 1 @, 2 ;", "x . a@", "x [ 1 ]@", "x [ 1 ] @; }",
		"if@", "if @{ } else { }", "if x@", "if x @; ", "if x @else { }", "if x {@", "if x { }@", "if x { } @}", "if x { } @if x { } else { }", "if x { } @; ", "if x { } else@", "if x { } else @if x { } else { }", "if x { } else {@", "if x { } else { @else", "if x { } else { } @else { }", "if @var { }",
		"for@", "for @{ }", "for x@", "for x @; ", "for x {@", "for x { } @else { }", "for @; { }", "for x { @) }",
		"return@", "return 1@", "return 1 @2 ;", "return @= ;", "return @}", "return ; @; }", "return 1 @, 2 ;",
		"print@", "print @; ", "print 1@", "print 1 @}", "print 1 @, 2 ;", "print @print 1 ;", "print @A ;", "print @var ;", "print x @= 1 ;",
		"panic@", "panic @; ", "panic 1@", "panic 1 @}", "panic @do f ( ) ;",
		"do@", "do @; ", "do @} ", "do f ( )@", "do f ( ) @}", "do f ( ) @= 1 ;", "do f ( ) @( ) ;", "do f (@", "do f ( 1@", "do @do f ( ) ;",
	)...)
}

func TestPlacesInExpressions(t *testing.T) {
	list := []string{
		"(@", "( @)", "( 1@", "( 1 @)", "( 1 @2 )", "( 1 @-2 )", "( 1@-2 )", "( x@-2 )", "( 1 @= 2 )", "( 1 @= = 2 )", "( 1 +@", "( 1 + @)", "( 1 + @+ 2 )", "( 1 + @- 2 )", "( 1 - @- 2 )", "( 1 + 2@", "( 1 + 2 @+ 3 )", "( 1 + 2 @; )", "( 1 @, 2 )", "( 1 + @; )", "( 1 < @= 2 )", "( 1 == @= 2 )", "( 1 @; )", "( 1 . @)",
		"@- 1", "@+ 1", "@* x", "@-", "@- x", "@[ 1 ]", "@. a", "@, 1", "@A", "@A . a", "@struct", "@else", "@var", "@{ }", "@==", "@%",
		"x .@", "x . @1", "x . @A", "x . @len", "x . @. a", "x . @[ 1 ]", "x . @( )", "x . @;", "x . a .@", "x . a @b", "x . a @( )", "x . a @( 1 )",
		"x [@", "x [ @]", "x [ 1@", "x [ 1 @;", "x [ 1 @, 2 ]", "x [ 1 @2 ]", "x [ 1 ] [@", "x [ 1 ] @1", "x [ 1 @)", "x [ 1 ] @( )", "x [ 1 @/ 2 ]",
		"f (@", "f ( @, )", "f ( @; )", "f ( 1@", "f ( 1 ,@", "f ( 1 , @)", "f ( 1 , @, 2 )", "f ( 1 @2 )", "f ( 1 @; )", "f ( 1 @]", "f ( ) @( )", "f ( ) @1", "f ( a @int )",
		"len@", "len @x", "len @;", "len (@", "len ( @)", "len ( x@", "len ( x @, y )", "len ( x @]", "len @[ ] int", "len ( x ) @( )",
		"int@", "int @1", "int @;", "int (@", "int ( @)", "int ( 1@", "int ( 1 @, 2 )", "int @x",
		"float@", "float @1", "float (@", "float ( @)", "float ( 1 @, 2 )", "float ( 1@",
		"read @( )", "read @1", "read @read", "1 @1", "1 @( )", "0f0000000000000000 @1", "x @y", "x @1", "nil A @A", "new A @( )",
	}
	for _, head := range []string{"print ", "x = ", "return ", "if ", "for ", "panic ", "x [ ", "do f ( ", "y . a [ 0 ] = ( 2 * "} {
		for _, text := range list {
			wantForm(t, inMain(head+text)...)
		}
	}
}

func TestLeftSides(t *testing.T) {
	for text, e := range expressions() {
		head := strings.TrimSuffix(twoStructs, "\n") + " "
		switch e.Kind {
		case impl.ExVar, impl.ExField, impl.ExIndex:
			wantForm(t, head+text+" @;", head+text+" =@", head+text+" @== 1 ;")
		default:
			wantForm(t, head+"@"+text+" = 1 ;", head+"@"+text+" ;", head+"@"+text+" == 1 ;", head+"@"+text+" }", head+"x = 1 ; @"+text+" = = ;")
		}
		// What comes behind it may make it one.
		wantForm(t, head+text+" . a @;", head+text+" [ 0 ] @;", head+text+" . @;", head+text+" [ @]")
	}
	wantForm(t, inMain("@f ( ) = 1 ;", "@( x + y ) = 1 ;", "@len ( x ) = 1 ;", "@read = 1 ;", "@make [ ] int ( 1 ) = 2 ;", "@nil A = x ;", "@new A = x ;", "@1 = 2 ;", "@-1 = 2 ;")...)
	wantForm(t, inMain("x . f @( ) = 1 ;", "x [ 0 ] @( ) = 1 ;", "( x + ( @) ) = 1 ;", "f ( @= ) = 1 ;")...)
}

func TestWhatStandsBehindDo(t *testing.T) {
	for text, e := range expressions() {
		head := strings.TrimSuffix(twoStructs, "\n") + " do "
		if e.Kind == impl.ExCall {
			wantForm(t, head+text+" @}", head+text+"@")
		} else {
			wantForm(t, head+"@"+text+" ;", head+"@"+text+" = ;", head+"@"+text+" }")
		}
		wantForm(t, head+"@"+text+" . a ;", head+"@"+text+" [ 0 ] ;")
	}
	wantForm(t, inMain("do @f ( ) . a ;", "do @f ( ) [ 0 ] ;", "do @f ;", "do @( f ( ) + 1 ) ;", "do @len ( f ( ) ) ;", "do @int ( 1 ) ;", "do f ( f ( @, ) ) ;")...)
	wantBothWays(t, mainOf(plain(impl.StDo, call("f", field(call("g"), "a")))), "func main ( ) {\ndo f ( g ( ) . a ) ;\n}\n")
}

// TestTextsThatEndTooEarly cuts the sample behind each token: what lacks is told at the end, whatever blanks stand there.
func TestTextsThatEndTooEarly(t *testing.T) {
	text := sampleText()
	tokens, _ := lex(t, text)
	deep, ahead := 0, ""
	for i, token := range tokens {
		end := len(text)
		if i+1 < len(tokens) {
			end = tokens[i+1].At
		}
		part := strings.TrimRight(text[:end], " \n")
		switch string(token.Text) {
		case "{":
			deep++
		case "}":
			deep--
		}
		for _, rest := range []string{"", " ", "\n", "  \n \n"} {
			_, code, at := parse(t, part+rest)
			switch {
			case string(token.Text) == "}" && deep == 0:
				if code != impl.ParseWell {
					t.Errorf("%q is complete: %d at %d", part+rest, code, at)
				}
			case ahead == "do":
				// The name alone is no call as yet.
			case code != impl.ParseForm || at != len(part+rest):
				t.Errorf("%q lacks something: %d at %d", part+rest, code, at)
			}
		}
		ahead = string(token.Text)
	}
}

// compact is a printed text without the blanks that part no tokens.
func compact(text string) string {
	var b strings.Builder
	for _, token := range strings.Fields(text) {
		if b.Len() > 0 && joins(b.String(), token) {
			b.WriteString(" ")
		}
		b.WriteString(token)
	}
	return b.String()
}

// joins tells whether two tokens side by side would be read as others.
func joins(ahead string, piece string) bool {
	isPiece := func(b byte) bool {
		return b >= 'a' && b <= 'z' || b >= 'A' && b <= 'Z' || b >= '0' && b <= '9'
	}
	last := ahead[len(ahead)-1]
	return isPiece(piece[0]) && (isPiece(last) || last == '-') || last == '=' && piece[0] == '='
}

func TestBlanksAndLineEndsChangeNothing(t *testing.T) {
	text := sampleText()
	for _, form := range []string{
		text, compact(text), strings.ReplaceAll(text, "\n", " "), strings.ReplaceAll(text, " ", "\n"), strings.ReplaceAll(text, " ", "   "), strings.ReplaceAll(text, "\n", "\n\n \n"),
		" " + text, "\n" + text, text + " ", text + "\n\n", "  \n " + text + " \n ", strings.TrimRight(text, "\n"),
	} {
		s, code, at := parse(t, form)
		if code != impl.ParseWell || at != 0 || !sameSource(s, sample()) {
			t.Errorf("%q: %d at %d", form, code, at)
		}
	}
	if compact(text) == text || !strings.Contains(compact(text), "(5%-6)") {
		t.Error("the compact text is not compact", compact(text))
	}
	for _, bad := range []string{"func main ( ) { 1 = 2 ; }", "?", "func f ( ) { } x", "func", "type A struct { } type A struct { }", "func f ( ) { x = 01 ; }"} {
		_, code, at := parse(t, bad)
		for _, ahead := range []string{" ", "\n", " \n \n  "} {
			if _, c, a := parse(t, ahead+bad); c != code || a != at+len(ahead) {
				t.Errorf("%q behind %q: %d at %d, was %d at %d", bad, ahead, c, a, code, at)
			}
		}
		want := at
		if at == len(bad) {
			want += 3
		}
		if _, c, a := parse(t, bad+" \n "); c != code || a != want {
			t.Errorf("%q with blanks behind it: %d at %d, was %d at %d", bad, c, a, code, at)
		}
	}
}

func TestByteAheadOfForm(t *testing.T) {
	wantPlace(t, "x y z @?", impl.ParseByte)
	wantPlace(t, "func if ( ) { 1 = 2 ; } @toolongname", impl.ParseByte)
	wantPlace(t, "} } } @-0", impl.ParseByte)
}

func TestMinusInSources(t *testing.T) {
	s := mainOf(plain(impl.StPrint, bin(impl.BiSub, num(1), num(2))), plain(impl.StPrint, bin(impl.BiSub, num(1), num(-2))), plain(impl.StPrint, bin(impl.BiSub, named("x"), named("y"))))
	wantBothWays(t, s, "func main ( ) {\nprint ( 1 - 2 ) ;\nprint ( 1 - -2 ) ;\nprint ( x - y ) ;\n}\n")
	for _, text := range []string{"func main(){print(1- 2);print(1--2);print(x-y);}", "func main(){print(1 - 2);print(1 - -2);print(x -y);}"} {
		back, code, at := parse(t, text)
		if code != impl.ParseWell || !sameSource(back, s) {
			t.Errorf("%q: %d at %d", text, code, at)
		}
	}
	wantForm(t, "func main(){print(1@-2);}", "func main(){print(x@-2);}", "func main(){print @-x;}", "func main(){print(1+@- 2);}")
}
