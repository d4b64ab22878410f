package tests

import (
	"fmt"
	"math"
	"strings"
	"testing"

	"loop.example/g00306/impl"
)

func word(at int, text string) impl.Token {
	return impl.Token{Kind: impl.TokWord, At: at, Text: []byte(text)}
}

func sign(at int, text string) impl.Token {
	return impl.Token{Kind: impl.TokSign, At: at, Text: []byte(text)}
}

func intToken(at int, n int) impl.Token {
	return impl.Token{Kind: impl.TokInt, At: at, N: n}
}

func floatToken(at int, n int) impl.Token {
	return impl.Token{Kind: impl.TokFloat, At: at, N: n}
}

// wantTokens fails unless Lex tells just these tokens.
func wantTokens(t *testing.T, text string, want ...impl.Token) {
	t.Helper()
	got, bad := lex(t, text)
	if bad != -1 || fmt.Sprint(got) != fmt.Sprint(want) {
		t.Errorf("Lex of %q: %v, %d, want %v", text, got, bad, want)
	}
}

// wantNoToken fails unless Lex and Parse refuse the text, without its only @, at the place of that.
func wantNoToken(t *testing.T, marked string) {
	t.Helper()
	place := strings.Index(marked, "@")
	text := strings.Replace(marked, "@", "", 1)
	if got, bad := lex(t, text); bad != place || len(got) != 0 {
		t.Errorf("Lex of %q: %v, %d, want the place %d", text, got, bad, place)
	}
	if _, code, at := parse(t, text); code != impl.ParseByte || at != place {
		t.Errorf("Parse of %q: %d at %d, want %d at %d", text, code, at, impl.ParseByte, place)
	}
}

func TestConstantsOfTheLanguage(t *testing.T) {
	got := []int{
		impl.MaxProgram, impl.MaxStructs, impl.MaxFields, impl.MaxFuncs, impl.MaxParams, impl.MaxNodes, impl.MaxDeep, impl.MaxWord,
		impl.TyNone, impl.TyInt, impl.TyFloat, impl.TyPtr, impl.TyInts, impl.TyFloats, impl.TyPtrs,
		impl.ExInt, impl.ExFloat, impl.ExNil, impl.ExVar, impl.ExNew, impl.ExMake, impl.ExCall, impl.ExField, impl.ExIndex, impl.ExLen, impl.ExBin, impl.ExRead, impl.ExToInt, impl.ExToFloat,
		impl.BiAdd, impl.BiSub, impl.BiMul, impl.BiDiv, impl.BiRem, impl.BiLess, impl.BiSame,
		impl.StVar, impl.StSet, impl.StIf, impl.StFor, impl.StReturn, impl.StPrint, impl.StPanic, impl.StDo,
		impl.TokWord, impl.TokInt, impl.TokFloat, impl.TokSign, impl.ParseWell, impl.ParseLong, impl.ParseByte, impl.ParseForm,
	}
	want := []int{
		6000, 6, 5, 8, 4, 400, 30, 8,
		0, 1, 2, 3, 4, 5, 6,
		0, 1, 2, 3, 4, 5, 6, 7, 8, 9, 10, 11, 12, 13,
		0, 1, 2, 3, 4, 5, 6,
		0, 1, 2, 3, 4, 5, 6, 7,
		1, 2, 3, 4, 0, 1, 2, 3,
	}
	if fmt.Sprint(got) != fmt.Sprint(want) {
		t.Errorf("the constants are %v", got)
	}
}

func TestLexOfNothing(t *testing.T) {
	for _, text := range []string{"", " ", "\n", "   \n\n  \n ", strings.Repeat(" ", impl.MaxProgram), strings.Repeat("\n", impl.MaxProgram)} {
		wantTokens(t, text)
		s, code, at := parse(t, text)
		if code != impl.ParseWell || at != 0 || !sameSource(s, impl.Source{}) {
			t.Errorf("Parse of %d bytes that are nothing: %d at %d", len(text), code, at)
		}
	}
	if tokens, bad := impl.Lex(nil); bad != -1 || len(tokens) != 0 {
		t.Error(tokens, bad)
	}
}

func TestLexOfOrdinaryText(t *testing.T) {
	wantTokens(t, "func main ( ) {\nx = ( y + 12 ) ;\n}\n",
		word(0, "func"), word(5, "main"), sign(10, "("), sign(12, ")"), sign(14, "{"),
		word(16, "x"), sign(18, "="), sign(20, "("), word(22, "y"), sign(24, "+"), intToken(26, 12), sign(29, ")"), sign(31, ";"), sign(33, "}"))
	wantTokens(t, "\n\n type  A1b\n", word(3, "type"), word(9, "A1b"))
	wantTokens(t, "0f3ff0000000000000 nil read", floatToken(0, impl.Bits(1)), word(19, "nil"), word(23, "read"))
}

func TestLexOfSignsInARow(t *testing.T) {
	all := "(){}[],;.*=+/%<-"
	var want []impl.Token
	for at := range len(all) {
		want = append(want, sign(at, all[at:at+1]))
	}
	wantTokens(t, all, want...)
	for at := range len(all) {
		wantTokens(t, all[at:at+1], sign(0, all[at:at+1]))
		wantTokens(t, "a"+all[at:at+1]+"b", word(0, "a"), sign(1, all[at:at+1]), word(2, "b"))
	}
}

func TestLexOfSameSigns(t *testing.T) {
	wantTokens(t, "==", sign(0, "=="))
	wantTokens(t, "= =", sign(0, "="), sign(2, "="))
	wantTokens(t, "=\n=", sign(0, "="), sign(2, "="))
	wantTokens(t, "===", sign(0, "=="), sign(2, "="))
	wantTokens(t, "====", sign(0, "=="), sign(2, "=="))
	wantTokens(t, "= ==", sign(0, "="), sign(2, "=="))
	wantTokens(t, "<=", sign(0, "<"), sign(1, "="))
	wantTokens(t, "a==b=c", word(0, "a"), sign(1, "=="), word(3, "b"), sign(4, "="), word(5, "c"))
	wantTokens(t, "a=", word(0, "a"), sign(1, "="))
}

func TestLexOfMinus(t *testing.T) {
	wantTokens(t, "-5", intToken(0, -5))
	wantTokens(t, "- 5", sign(0, "-"), intToken(2, 5))
	wantTokens(t, "-\n5", sign(0, "-"), intToken(2, 5))
	wantTokens(t, "-", sign(0, "-"))
	wantTokens(t, "-x", sign(0, "-"), word(1, "x"))
	wantTokens(t, "-(", sign(0, "-"), sign(1, "("))
	wantTokens(t, "--", sign(0, "-"), sign(1, "-"))
	wantTokens(t, "--5", sign(0, "-"), intToken(1, -5))
	wantTokens(t, "---5", sign(0, "-"), sign(1, "-"), intToken(2, -5))
	wantTokens(t, "x-5", word(0, "x"), intToken(1, -5))
	wantTokens(t, "3-5", intToken(0, 3), intToken(1, -5))
	wantTokens(t, "3-5-7", intToken(0, 3), intToken(1, -5), intToken(3, -7))
	wantTokens(t, "A-5", word(0, "A"), intToken(1, -5))
	wantTokens(t, ")-5", sign(0, ")"), intToken(1, -5))
	wantTokens(t, "==-5", sign(0, "=="), intToken(2, -5))
	wantTokens(t, "0f0000000000000000-5", floatToken(0, 0), intToken(18, -5))
	wantTokens(t, "(3- 5)", sign(0, "("), intToken(1, 3), sign(2, "-"), intToken(4, 5), sign(5, ")"))
	for _, marked := range []string{"@-5a", "@-5A", "@-05", "@-0", "@-00", "x@-0", "3 @-0x", "-@-0", "@-0f0000000000000000", "@-0f3ff0000000000000", "@-1f3ff0000000000000"} {
		wantNoToken(t, marked)
	}
}

func TestLexOfInts(t *testing.T) {
	cases := []struct {
		text string
		n    int
	}{
		{"0", 0}, {"1", 1}, {"9", 9}, {"10", 10}, {"100", 100}, {"-1", -1}, {"-10", -10}, {"1234567890", 1234567890},
		{"9223372036854775807", math.MaxInt}, {"9223372036854775806", math.MaxInt - 1},
		{"-9223372036854775808", math.MinInt}, {"-9223372036854775807", math.MinInt + 1},
	}
	for _, c := range cases {
		wantTokens(t, c.text, intToken(0, c.n))
	}
	for _, text := range []string{
		"9223372036854775808", "9223372036854775809", "-9223372036854775809", "18446744073709551616", "-18446744073709551616", "10000000000000000000", "99999999999999999999",
		"00", "01", "007", "-0", "-00", "-01", "09223372036854775807", "-09223372036854775808", "0000000000000000000000",
		strings.Repeat("9", 400), "-" + strings.Repeat("9", 400), strings.Repeat("0", 5000),
	} {
		wantNoToken(t, "@"+text)
		wantNoToken(t, "func main ( ) {\nprint @"+text+" ;\n}\n")
	}
	for _, n := range spread(300) {
		wantTokens(t, fmt.Sprint(n), intToken(0, n))
	}
}

func TestLexOfFloats(t *testing.T) {
	cases := []struct {
		text string
		n    int
	}{
		{"0f0000000000000000", 0}, {"0f8000000000000000", math.MinInt}, {"0f3ff0000000000000", impl.Bits(1)}, {"0fc000000000000000", impl.Bits(-2)},
		{"0f7ff0000000000000", plusInf}, {"0ffff0000000000000", minusInf}, {"0f0000000000000001", 1}, {"0f0123456789abcdef", 0x0123456789abcdef},
		{"0f7fefffffffffffff", greatest}, {"0fffefffffffffffff", least}, {"0f7ff8000000000001", noNumber},
	}
	for _, c := range cases {
		wantTokens(t, c.text, floatToken(0, c.n))
	}
	for _, text := range []string{
		"0f", "0f0", "0f000000000000000", "0f00000000000000000", "0f3ff000000000000", "0f3ff00000000000000", "0f0000000000000000000000000000000001",
		"0f3FF0000000000000", "0f3fF0000000000000", "0F3ff0000000000000", "0f0123456789ABCDEF", "0f000000000000000A",
		"0f000000000000000g", "0f000000000000000z", "0fx000000000000000", "0f0x00000000000000", "00f000000000000000", "1f0000000000000000", "0x0000000000000000",
		"0f0000000000000000f", "0f3ff0000000000000a",
	} {
		wantNoToken(t, "@"+text)
		wantNoToken(t, "x = @"+text+";")
	}
	wantTokens(t, "f0000000", word(0, "f0000000"))
	wantNoToken(t, "@f000000000000000")
	wantNoToken(t, "@0f+000000000000000")
	wantNoToken(t, "@0f-000000000000001")
	wantNoToken(t, "@0f_000000000000000")
}

// Only the bits that stand for all that are no number are those of a float.
func TestLexOfBitsOfNoNumber(t *testing.T) {
	for _, n := range noNumberBits() {
		text := fmt.Sprintf("0f%016x", uint64(n))
		if n == noNumber {
			wantTokens(t, text, floatToken(0, n))
			continue
		}
		wantNoToken(t, "@"+text)
	}
	for _, n := range append(spread(300), numberBits()...) {
		if !isNoNumber(n) {
			wantTokens(t, fmt.Sprintf("0f%016x", uint64(n)), floatToken(0, n))
		}
	}
}

func TestLexOfWords(t *testing.T) {
	for _, text := range []string{"a", "z", "a1", "az09", "abcdefgh", "z2345678", "A", "Z", "A1", "Abcdefgh", "Z2345678", "main", "type", "struct", "return", "x0f", "f3ff0000"} {
		wantTokens(t, text, word(0, text))
	}
	for _, text := range []string{
		"abcdefghi", "z23456789", "Abcdefghi", "Z23456789", "aB", "abC", "AB", "AbC", "ABC", "aaaaaaaA", "Aaaaaaa1B",
		"1a", "9A", "0a", "12ab", "1e5", "0x10", strings.Repeat("a", 100), strings.Repeat("A", 100),
	} {
		wantNoToken(t, "@"+text)
		wantNoToken(t, "a b\n@"+text+" c")
	}
	wantTokens(t, "a b", word(0, "a"), word(2, "b"))
	wantTokens(t, "a.b", word(0, "a"), sign(1, "."), word(2, "b"))
}

// TestLexOfEachByte puts each byte alone, and between two tokens.
func TestLexOfEachByte(t *testing.T) {
	for b := range 256 {
		c := string([]byte{byte(b)})
		kind := 0
		switch {
		case b == ' ' || b == '\n':
			wantTokens(t, c)
			wantTokens(t, "a"+c+"b", word(0, "a"), word(2, "b"))
			continue
		case b >= 'a' && b <= 'z' || b >= 'A' && b <= 'Z':
			kind = impl.TokWord
		case b >= '0' && b <= '9':
			kind = impl.TokInt
		case strings.Contains("(){}[],;.*=+/%<-", c):
			kind = impl.TokSign
		}
		if kind == 0 {
			wantNoToken(t, "@"+c)
			wantNoToken(t, "a ( @"+c+" ? b")
			wantNoToken(t, "ab@"+c+"cd")
			continue
		}
		got, bad := lex(t, c)
		if bad != -1 || len(got) != 1 || got[0].Kind != kind || got[0].At != 0 {
			t.Errorf("Lex of the byte %d: %v, %d", b, got, bad)
		}
	}
	for _, marked := range []string{"@?", "a @\t b", "a\n@\r\n", "a @_ b", "a@_b", "x @! = y", "( @> )", "a @& b", "@é", "a @\x00", "@\xff", "{ @\"a\" }", "@:=", "a @' b"} {
		wantNoToken(t, marked)
	}
}

func TestLexTellsTheFirstPlace(t *testing.T) {
	wantNoToken(t, "@? 01 ?")
	wantNoToken(t, "a @01 ?")
	wantNoToken(t, "aaa bbb\n@toolongword ?")
	wantNoToken(t, "func ( @-0 = if 7up")
}

func TestLexOfLongTexts(t *testing.T) {
	fits := strings.Repeat("a ", impl.MaxProgram/2)
	got, bad := lex(t, fits)
	if bad != -1 || len(got) != impl.MaxProgram/2 || got[len(got)-1].At != impl.MaxProgram-2 {
		t.Errorf("Lex of MaxProgram bytes: %d tokens, %d", len(got), bad)
	}
	for _, text := range []string{fits + " ", fits + "b", "?" + fits, fits + "?", strings.Repeat(" ", impl.MaxProgram+1), strings.Repeat("?", impl.MaxProgram*3)} {
		if got, bad := lex(t, text); bad != 0 || len(got) != 0 {
			t.Errorf("Lex of %d bytes: %d tokens, %d", len(text), len(got), bad)
		}
		if _, code, at := parse(t, text); code != impl.ParseLong || at != 0 {
			t.Errorf("Parse of %d bytes: %d at %d", len(text), code, at)
		}
	}
	wantNoToken(t, strings.Repeat(" ", impl.MaxProgram-1)+"@?")
}

// TestBlanksAroundTokens moves tokens by blanks; nothing but their places may change.
func TestBlanksAroundTokens(t *testing.T) {
	text := "x==-5 - 5.a[0f3ff0000000000000]{A}"
	want, _ := lex(t, text)
	for _, ahead := range []string{" ", "\n", " \n  "} {
		got, bad := lex(t, ahead+text+ahead)
		if bad != -1 || len(got) != len(want) {
			t.Fatal(got, bad)
		}
		for i := range got {
			got[i].At -= len(ahead)
		}
		if fmt.Sprint(got) != fmt.Sprint(want) {
			t.Errorf("behind %q: %v, want %v", ahead, got, want)
		}
	}
}
