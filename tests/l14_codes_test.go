package tests

import (
	"fmt"
	"slices"
	"strings"
	"testing"

	"loop.example/g00306/impl"
)

func TestConstantsOfBuilds(t *testing.T) {
	got := []int{impl.BuildWell, impl.BuildLong, impl.BuildByte, impl.BuildForm, impl.BuildName, impl.BuildFlow, impl.BuildClash, impl.BuildLarge, impl.BuildPass}
	if !slices.Equal(got, upTo(9)) {
		t.Error(got)
	}
}

// wantMarked fails unless the text, without its only @, is refused with the code at the place of that, whatever the passes.
func wantMarked(t *testing.T, code int, list ...string) {
	t.Helper()
	for _, marked := range list {
		text := strings.Replace(marked, "@", "", 1)
		for _, passes := range [][]int{nil, {impl.PassFold}, {-1}, make([]int, impl.MaxPasses+1)} {
			wantBuild(t, text, passes, code, strings.Index(marked, "@"))
		}
	}
}

// wantCodes is wantBuild of texts whose refusal tells no place, or that are well.
func wantCodes(t *testing.T, code int, passes []int, list ...string) {
	t.Helper()
	for _, text := range list {
		wantBuild(t, text, passes, code, 0)
	}
}

const emptyMain = "func main ( ) { }"

// TestBuildsOfLongTexts: by their bytes, blanks with them, and by what is read from them.
func TestBuildsOfLongTexts(t *testing.T) {
	blanks := func(count int) string { return strings.Repeat(" ", count-len(emptyMain)) }
	wantCodes(t, impl.BuildWell, nil, emptyMain+blanks(impl.MaxProgram), blanks(impl.MaxProgram)+emptyMain)
	for _, text := range []string{
		emptyMain + blanks(impl.MaxProgram+1), blanks(impl.MaxProgram+1) + emptyMain, strings.Repeat(" ", impl.MaxProgram+1), strings.Repeat("?", impl.MaxProgram+1), strings.Repeat("x ", impl.MaxProgram), strings.Repeat("func main(){}", 1000),
		"func main ( ) { " + strings.Repeat("return;", impl.MaxNodes+1) + " }", strings.Repeat("func f ( ) { } ", impl.MaxFuncs) + emptyMain, "func main ( a int , b int , c int , d int , e int ) { }",
		"func main ( ) { print " + strings.Repeat("( 1 + ", impl.MaxDeep) + "1" + strings.Repeat(" )", impl.MaxDeep) + " ; }", "type A struct { a int ; b int ; c int ; d int ; e int ; f int ; } " + emptyMain,
	} {
		for _, passes := range [][]int{nil, {impl.PassDead}, {9}} {
			wantBuild(t, text, passes, impl.BuildLong, 0)
		}
	}
	// What has few bytes itself, but is printed with more than there may be.
	if _, text := ofSize(impl.MaxProgram + 1); len(compact(text)) > impl.MaxProgram {
		t.Error("the compact text is too long itself")
	} else {
		wantBuild(t, compact(text), nil, impl.BuildLong, 0)
	}
	_, text := ofSize(impl.MaxProgram)
	if b := compile(t, text, nil); b.Code == impl.BuildLong {
		t.Error("as many bytes as there may be are too many")
	}
}

func TestBuildsOfTextsThatAreNotRead(t *testing.T) {
	wantMarked(t, impl.BuildByte,
		"@?", "@\x00", "@\t", "@\xff", "@#"+emptyMain, emptyMain+"@?", emptyMain+" @\r\n", "func main ( ) { print @01 ; }", "func main ( ) { print @9223372036854775808 ; }", "func @longername ( ) { }", "func main ( ) { print @0f12 ; }", "func if if @! if", "func main ( ) { var @aB int ; }", emptyMain+" @\"", "func main ( ) { @! }",
	)
	wantMarked(t, impl.BuildForm,
		"@x", "func@", "func @( ) { }", "func main ( )@", "func main ( ) {@", "func main ( ) { print 1@", "func main ( ) { print 1 @}", "func main ( ) { @1 = 2 ; }", "func main ( ) { do @main ; }", "func main ( ) { print nil @; }", "func main ( ) { print nil @A ; }",
		emptyMain+"@}", emptyMain+" @type A struct { }", "type A struct { } type @A struct { }", "func main ( ) { if 1 { }@", "func main ( ) { if 1 { } @}", "func main ( ) { \n\n @; }", "type A struct {@", "type@", "func main ( ) { x . a [ 1 ]@",
		// What lacks is told behind the blanks at the end.
		"func main ( ) { \n @", "func   @",
		// A limit that is passed plays no part in that.
		strings.Repeat("func f(){}", 500)+"@;",
	)
	wantBuild(t, "", nil, impl.BuildName, 0)
	wantBuild(t, " \n ", nil, impl.BuildName, 0)
}

func TestBuildsOfTextsThatMeanNothing(t *testing.T) {
	for _, passes := range [][]int{nil, passesOf("fcsd"), {4}, {-1, 0}, make([]int, 13)} {
		wantCodes(t, impl.BuildName, passes,
			"func f ( ) { }", "type A struct { }", "func main ( a int ) { }", "func main ( ) int { return 1 ; }", "func main ( ) { print x ; }", "func main ( ) { do f ( ) ; }", "func main ( ) { } func main ( ) { }", "func main ( ) { var a int ; var a int ; }",
			"type A struct { a int ; a int ; } "+emptyMain, "func main ( ) { if 1 { var a int ; } else { } print a ; }", "func main ( ) { x = 1 ; }", "func f ( a int , a int ) { } "+emptyMain,
		)
		wantCodes(t, impl.BuildFlow, passes,
			"func main ( ) { return ; return ; }", "func f ( ) int { } "+emptyMain, "func main ( ) { panic 1 ; print 1 ; }", "func f ( ) int { if 1 { return 1 ; } else { } } "+emptyMain, "func main ( ) { if 1 { return ; } else { panic 1 ; } return ; }", "func main ( ) { for 1 { return ; print 1 ; } }", "func f ( ) int { for 1 { return 1 ; } } "+emptyMain,
		)
		wantCodes(t, impl.BuildClash, passes,
			"func main ( ) { panic 0f0000000000000000 ; }", "func main ( ) { return 1 ; }", "func main ( ) { print main ( ) ; }", "func main ( ) { print ( 1 + 0f0000000000000000 ) ; }", "func main ( ) { var a int ; a = 0f0000000000000000 ; }", "func f ( a int ) { } func main ( ) { do f ( ) ; }",
			"type A struct { } func main ( ) { print new A ; }", "type A struct { } func main ( ) { print new A . a ; }", "func main ( ) { print 1 [ 0 ] ; }", "func main ( ) { if 0f0000000000000000 { } else { } }", "func f ( ) int { return 0f0000000000000000 ; } "+emptyMain, "func main ( ) { print ( 0f0000000000000000 % 0f0000000000000000 ) ; }",
		)
	}
	// What is wrong in several ways is refused with the first one of them.
	wantCodes(t, impl.BuildName, nil, "func main ( ) { return ; print x ; }", "func main ( ) { panic 0f0000000000000000 ; print x ; }", "func f ( ) int { panic 0f0000000000000000 ; }")
	wantCodes(t, impl.BuildFlow, nil, "func main ( ) { return 1 ; return ; }", "func f ( ) int { print main ( ) ; } "+emptyMain)
	wantMarked(t, impl.BuildForm, "func main ( ) { return ; print x @}", "func f ( ) { @1 = 2 ; }")
	wantMarked(t, impl.BuildByte, "func main ( ) { 1 = 2 ; @? }", "func f ( ) { @? }")
}

// branchedText is a text whose function main has so many blocks.
func branchedText(blocks int) string {
	return "func main ( ) { " + manyBlocks(blocks, "if read { } else { }", "for read { }") + " }"
}

// TestBuildsOfManyBlocks: as many as there may be, and one more; whatever the passes would do with them.
func TestBuildsOfManyBlocks(t *testing.T) {
	for _, passes := range [][]int{nil, {impl.PassFold}, passesOf("fcsd")} {
		wantCodes(t, impl.BuildWell, passes, branchedText(impl.MaxBlocks-1), branchedText(impl.MaxBlocks))
		wantCodes(t, impl.BuildLarge, passes, branchedText(impl.MaxBlocks+1), branchedText(impl.MaxBlocks+2))
	}
	// Passes that may not be are told where there is a unit alone.
	for _, passes := range [][]int{{4}, {-1}, {0, 1, 2, 3, 9}, make([]int, impl.MaxPasses+1)} {
		wantCodes(t, impl.BuildPass, passes, branchedText(impl.MaxBlocks))
		wantCodes(t, impl.BuildLarge, passes, branchedText(impl.MaxBlocks+1))
	}
}

// nestedSets sets these variables to themselves, so deep in ifs or loops.
func nestedSets(head string, foot string, deep int, names []string) string {
	text := strings.Repeat(head, deep)
	for _, name := range names {
		text += name + " = " + name + " ; "
	}
	return text + strings.Repeat(foot, deep)
}

func declarations(letter string, count int) (string, []string) {
	text, names := "", []string(nil)
	for n := range count {
		names = append(names, fmt.Sprint(letter, n))
		text += "var " + names[n] + " int ; "
	}
	return text, names
}

// slotsText is a text whose function main has so many slots more than a great number: each of its loops' heads calls
// something, and has all variables as parameters that are needed behind that.
func slotsText(more int) string {
	text, names := declarations("v", 20)
	text += nestedSets("for f ( ) { ", "} ", 18, names)
	last, late := declarations("w", more)
	text += last + "do f ( ) ; "
	for _, name := range late {
		text += "print " + name + " ; "
	}
	return "func f ( ) int { return 0 ; } func main ( ) { " + text + "}"
}

// manyInsText is a text whose function f has so many instructions more than a great number, nearly all of them at the ends of
// ifs, where all its variables, Params too, come together.
func manyInsText(more int) string {
	text, names := declarations("v", 4)
	names = append(names, "a", "b", "c", "d")
	for _, deep := range []int{26, 26, 25, 25, 25} {
		text += nestedSets("if read { ", "} else { } ", deep, names)
	}
	last, _ := declarations("w", more)
	return "func f ( a int , b int , c int , d int ) { " + text + last + "} " + emptyMain
}

// wantLargeFrom fails unless a text of so many more is well, with what is counted in its image as great as it may be; and
// one more is too large, but not behind a pass by which most goes.
func wantLargeFrom(t *testing.T, what string, text func(more int) string, most int, count func(m impl.Image) int) {
	t.Helper()
	base := count(wellImage(t, text(0), nil))
	for _, more := range []int{most - base - 1, most - base} {
		wantBuild(t, text(more), nil, impl.BuildWell, 0)
		if got := count(wellImage(t, text(more), nil)); got != base+more {
			t.Errorf("%s: %d, want %d", what, got, base+more)
		}
	}
	large := text(most - base + 1)
	wantBuild(t, large, nil, impl.BuildLarge, 0)
	wantBuild(t, large, []int{impl.PassFold}, impl.BuildLarge, 0)
	wantBuild(t, large, []int{impl.PassDead}, impl.BuildWell, 0)
	// Passes come ahead of code.
	for _, passes := range [][]int{{4}, {-1}, {3, 3, 9}, make([]int, impl.MaxPasses+1)} {
		wantBuild(t, large, passes, impl.BuildPass, 0)
	}
	if r := runText(t, large, nil, roomySetup()); !sameResult(r, impl.Result{}) {
		t.Errorf("%s: %s", what, resultText(r))
	}
	if r := runText(t, large, []int{impl.PassDead}, roomySetup()); r.End != impl.EndExit {
		t.Errorf("%s: %s", what, resultText(r))
	}
}

// TestBuildsOfMuchCode: as many slots and instructions as there may be, and one more. An image of too many bytes is not
// met: of 400 parts that many instructions do not come.
func TestBuildsOfMuchCode(t *testing.T) {
	t.Parallel()
	wantLargeFrom(t, "slots", slotsText, impl.MaxSlots, func(m impl.Image) int { return m.Codes[1].Frame - impl.Head - 20 })
	wantLargeFrom(t, "instructions", manyInsText, impl.MaxCode, func(m impl.Image) int { return len(m.Codes[0].Ins) })
}

// TestBuildsBehindPasses: each list of passes that may be is done, and no other.
func TestBuildsBehindPasses(t *testing.T) {
	const text = "func main ( ) { var a int ; a = 1 ; if ( a < 2 ) { a = ( 2 * 3 ) ; print ( 1 + read ) ; } else { print ( 1 + read ) ; } print a ; print ( a + 1 ) ; }"
	plain := wantBuild(t, text, nil, impl.BuildWell, 0)
	if !sameBuild(plain, wantBuild(t, text, []int{}, impl.BuildWell, 0)) {
		t.Error("an empty list is another one")
	}
	unlike := map[string]bool{string(plain.Bytes): true}
	for _, passes := range append(somePasses(), passesOf("ffff"), passesOf("fdfd"), passesOf("cscscscscscs"), passesOf("fcsdfcsdfcsd"), slices.Repeat([]int{3}, impl.MaxPasses)) {
		b := wantBuild(t, text, passes, impl.BuildWell, 0)
		unlike[string(b.Bytes)] = true
		if len(b.Bytes) > len(plain.Bytes) {
			t.Errorf("%v makes %d bytes, none %d", passes, len(b.Bytes), len(plain.Bytes))
		}
	}
	if len(unlike) < 6 {
		t.Errorf("only %d unlike builds", len(unlike))
	}
	for _, passes := range [][]int{{4}, {-1}, {1 << 40}, {-1 << 63}, {1<<63 - 1}, {0, 4}, {4, 0}, {0, 1, -1, 3}, {0, 1, 2, 3, 7}, make([]int, impl.MaxPasses+1), slices.Repeat([]int{3}, 13), append(make([]int, 12), 4), append(make([]int, 11), 4), make([]int, 5000)} {
		wantBuild(t, text, passes, impl.BuildPass, 0)
		wantBuild(t, emptyMain, passes, impl.BuildPass, 0)
	}
}

// TestBuildsAreWhatIsEmitted: the bytes are those of the image that the chapters make one behind the other.
func TestBuildsAreWhatIsEmitted(t *testing.T) {
	for _, x := range handSources() {
		u := loweredText(t, x.text)
		for _, passes := range somePasses() {
			o, _ := impl.Optimize(u, passes)
			want, ok := impl.Emit(o)
			b := impl.Compile([]byte(x.text), passes)
			m, read := impl.ImageRead(b.Bytes)
			if b.Code != impl.BuildWell || b.At != 0 || !ok || !read || !sameImage(m, want) {
				t.Fatalf("%s\nbehind %v: %s\n%swant:\n%s", x.text, passes, showBuild(b), moText(m), moText(want))
			}
			if written, _ := impl.ImageBytes(want); string(written) != string(b.Bytes) {
				t.Fatalf("%s\nbehind %v: other bytes", x.text, passes)
			}
		}
	}
}

// TestBuildByHand is a small image, byte by byte.
func TestBuildByHand(t *testing.T) {
	ins := func(op byte, a byte, n byte) string {
		return string([]byte{op, a, 0, 0, n, 0, 0, 0, 0, 0, 0, 0})
	}
	b := wantBuild(t, "type A struct { i int ; p * A ; } func f ( ) { } func main ( ) { print 5 ; do f ( ) ; }", nil, impl.BuildWell, 0)
	want := "GI\x01\x00\x02\x00\x01\x00" + "\x02\x00\x00\x01" +
		"\x03\x00\x00\x00\x01\x00\x00\x00" + ins(impl.MoReturn, 0, 0) +
		"\x03\x00\x00\x00\x04\x00\x01\x00" + ins(impl.MoInt, 0, 5) + ins(impl.MoPrint, 0, 0) + ins(impl.MoCall, 0, 0) + ins(impl.MoReturn, 0, 0) + "\x02\x00\x00\x00"
	if string(b.Bytes) != want {
		t.Errorf("%q, want %q", b.Bytes, want)
	}
}

// turnToken puts in the place of one token another one that may stand there, most often, or takes a statement more or less.
func turnToken(m *maker, tokens []string) string {
	sorts := []string{"a b i n p v", "1 0 -3 read 0f3ff0000000000000 100", "+ - * / % < ==", "int float", "print panic", "fib push grow show down main"}
	for range 40 {
		at := m.pick(len(tokens))
		for _, sort := range sorts {
			list := strings.Fields(sort)
			if slices.Contains(list, tokens[at]) {
				tokens[at] = list[m.pick(len(list))]
				return strings.Join(tokens, " ")
			}
		}
		if tokens[at] == ";" && m.pick(4) == 0 {
			tokens[at] = []string{"; return ;", "; print 1 ;", "; panic 2 ;", "; do main ( ) ;"}[m.pick(4)]
			return strings.Join(tokens, " ")
		}
	}
	return strings.Join(tokens, " ")
}

// TestSpoiltTextsBuilt: whatever is another in a text, it is refused with a code, or compiled and does what it means.
func TestSpoiltTextsBuilt(t *testing.T) {
	t.Parallel()
	numbers := spread(60000)
	m := newMaker(numbers, 89)
	codes := map[int]int{}
	for round := range 1500 {
		text := handSources()[m.pick(len(handSources()))].text
		if round%3 == 0 {
			made, _ := impl.Print(bared(newTypedMaker(numbers, round*67+5).typedSource()))
			text = string(made)
		}
		turn := turnToken
		if round%5 == 0 {
			turn = spoilTokens
		}
		text = turn(m, append(strings.Fields(text), ""))
		passes := longPasses(m)
		if m.pick(8) == 0 {
			passes = append(passes, 2+m.pick(4))
		}
		b := compile(t, text, passes)
		codes[b.Code]++
		s := impl.Setup{Half: impl.MinHalf + m.pick(200), Stack: impl.MinStack + m.pick(100), Fuel: m.pick(4000), Input: promiseInput(numbers, round), Oracle: []int{1, 2, 1, 2, m.pick(3)}}
		r := runText(t, text, passes, s)
		if b.Code == impl.BuildWell {
			wantMeans(t, text, passes, s, impl.Eval(wellTyped(t, text), s.Input, impl.MaxFuel), r)
		}
	}
	t.Log(codes)
	for _, code := range []int{impl.BuildWell, impl.BuildByte, impl.BuildForm, impl.BuildName, impl.BuildFlow, impl.BuildClash, impl.BuildPass} {
		if codes[code] < 10 {
			t.Errorf("only %d of the code %d", codes[code], code)
		}
	}
}

// TestBytesOfAllSortsBuilt: texts that are hardly texts.
func TestBytesOfAllSortsBuilt(t *testing.T) {
	m := newMaker(spread(40000), 97)
	const likely = "(){}[],;.*=+/%<- \nfunc main type 0f12 x1 A?"
	for range 1500 {
		text := make([]byte, m.pick(60))
		for n := range text {
			text[n] = likely[m.pick(len(likely))]
			if m.pick(9) == 0 {
				text[n] = byte(m.pick(256))
			}
		}
		if b := compile(t, string(text), nil); b.Code == impl.BuildLarge || b.Code == impl.BuildPass {
			t.Errorf("%q: %s", text, showBuild(b))
		}
	}
}
