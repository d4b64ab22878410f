package tests

import (
	"strings"
	"testing"

	"loop.example/g00306/impl"
)

// optTexts are units in which each pass finds something, and one finds what another one left.
var optTexts = []string{
	refusedText,
	"fn main; a = int 2; b = int 2; c = mul a b; d = mul b a; e = eq c d; if e t f; t :; jump m c; f :; jump m d; m p:int :; q = add p a; r = add p b; print q; print r; return",
	"fn main; x = read; z = int 0; one = int 1; jump h z x; h i:int y:int :; l = less i y; if l b o; b :; j = add i one; k = add i one; print j; print k; jump h k y; o :; print i; panic y",
	"struct int *0; fn main; p = new 0; nilcheck p; x = read; store 0 p x; nilcheck p; y = load 0 p; zerocheck y; q = div x y; n = nil *0; s = same p n; if s a b; a :; nilcheck n; v = load 1 n; jump c v; b :; jump c p; c r:*0 :; nilcheck r; w = load 0 r; print w; return",
	"fn f a:float b:float > float; one = float 1; c = fmul a one; jump m a a; m p:float q:float :; d = fadd p q; e = fadd q p; s = fless d e; if s t u; t :; jump m p q; u :; return d; fn main; x = read; y = tofloat x; z = call f y y; print z; return",
	"fn main; n = int 100; makecheck n; l = make []int n; m = make []int n; k = len l; k2 = len l; i = sub k k2; indexcheck l i; indexcheck m i; put l i k; v = get l i; w = get m i; s = add v w; print s; t = int 101; makecheck t; return",
	"fn main; jump c; a p:int :; q = add p y; if q b d; b :; jump a y; c :; x = int 1; y = add x x; jump a y; d :; print p; return",
}

// TestAllOrders: each list of passes of units that are written by hand, held against the promise.
func TestAllOrders(t *testing.T) {
	s := newSavings()
	for _, text := range append(optTexts, tidyTexts...) {
		s.add(t, unitOf(text), somePasses(), nil, []int{1, 2, 3}, []int{5, 0, 1, -7, 100})
	}
	s.want(t, 10, "exit", "trap make", "fuel", "deep")
}

// TestEachPassTwice: PassCopy and PassDead leave nothing for themselves; nor do the others where blocks are numbered as
// they come, as those of sources are.
func TestEachPassTwice(t *testing.T) {
	numbers := spread(30000)
	for _, text := range optTexts {
		wantOnce(t, unitOf(text), "c", "d")
	}
	for round := range 60 {
		wantOnce(t, newUnitMaker(numbers, round*83).unit(), "c", "d")
		if u, ok := impl.Lower(newTypedMaker(numbers, round*59+7).typedSource()); ok {
			wantOnce(t, u, "f", "c", "s", "d")
		}
	}
}

// wantOnce fails unless each pass, done twice, makes what it does when it is done once.
func wantOnce(t *testing.T, u impl.Unit, passes ...string) {
	t.Helper()
	for _, letter := range passes {
		once, twice := optimized(t, u, letter), optimized(t, u, letter+letter)
		if unitText(once) != unitText(twice) {
			t.Fatalf("%s twice of\n%s\n%s\nonce:\n%s", letter, unitText(u), unitText(twice), unitText(once))
		}
	}
}

// TestPassesOneByOne: several passes are the same as each by itself, one behind the other.
func TestPassesOneByOne(t *testing.T) {
	numbers := spread(30000)
	m := newMaker(numbers, 43)
	for round := range 60 {
		u := newUnitMaker(numbers, round*61).unit()
		passes := longPasses(m)
		all, _ := impl.Optimize(u, passes)
		step := u
		for _, p := range passes {
			step, _ = impl.Optimize(step, []int{p})
		}
		if unitText(all) != unitText(step) {
			t.Fatalf("%v at once:\n%s\none by one:\n%s", passes, unitText(all), unitText(step))
		}
	}
}

// TestWhatOnePassLeaves: what a pass opens up for the next one, in sources.
func TestWhatOnePassLeaves(t *testing.T) {
	for _, x := range []struct {
		text, letters string
		want          []string
	}{
		{"func main ( ) { if ( 1 < 2 ) { print ( 3 * 4 ) ; } else { print 5 ; } }", "fd", []string{"b0; jump b1", "b1; 0:int = int 12; 1 = print 0; jump b2", "b2; return"}},
		{"func main ( ) { var x int ; x = read ; for read { x = x ; } print x ; }", "cd", []string{"b0; 0:int = read; jump b1", "b1; 1:int = read; if 1 b2 b3", "b2; jump b1", "b3; 2 = print 0; return"}},
		{"func main ( ) { var x int ; x = 3 ; if x { x = 5 ; } else { } print ( x + 1 ) ; }", "fcfd", []string{"b0; jump b1", "b1; jump b2", "b2; 0:int = int 6; 1 = print 0; return"}},
		{"func main ( ) { print ( ( read + 1 ) * ( read + 1 ) ) ; }", "s", []string{"b0; 0:int = read; 1:int = int 1; 2:int = add 0 1; 3:int = read; 4:int = add 3 1; 5:int = mul 2 4; 6 = print 5; return"}},
		{"func main ( ) { var l [ ] int ; print ( 7 / ( len ( l ) + 2 ) ) ; print len ( make [ ] int ( 4 ) ) ; }", "fd", []string{"b0; 0:int = int 3; 1 = print 0; 2:int = int 4; 3:[]int = make 2; 4:int = len 3; 5 = print 4; return"}},
		{"type P struct { a int ; } func main ( ) { var p * P ; p = new P ; p . a = 4 ; print ( p . a + p . a ) ; if ( p == nil P ) { print 1 ; } else { } }", "fsd", []string{"b0; 0:*0 = new 0; 1:int = int 4; 2 = store 0 0 1; 3:int = load 0 0; 4:int = load 0 0; 5:int = add 3 4; 6 = print 5; jump b1", "b1; jump b2", "b2; return"}},
		{"type P struct { a int ; } func f ( p * P ) int { return ( p . a + p . a ) ; } func main ( ) { }", "s", []string{"b0 0:*0; 1 = nilcheck 0; 2:int = load 0 0; 3:int = load 0 0; 4:int = add 2 3; return 4"}},
	} {
		u, _ := impl.Lower(wellTyped(t, x.text))
		got := blocksText(optimized(t, u, x.letters).Fns[0])
		if want := strings.Join(x.want, "\n"); got != want {
			t.Errorf("%s of %s:\n%s\nwant:\n%s", x.letters, x.text, got, want)
		}
	}
}
