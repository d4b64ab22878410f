package tests

import (
	"fmt"
	"math"
	"testing"

	"loop.example/g00306/impl"
)

func TestChecks(t *testing.T) {
	heads := "struct int; struct; fn main; "
	wantOutcomes(t, heads, nil, [][2]string{
		{"p = new 0; nilcheck p; return", "exit in 3:"},
		{"p = new 1; nilcheck p; return", "exit in 3:"},
		{"p = nil *0; nilcheck p; return", "trap nil in 2:"},
		{"p = nil *1; nilcheck p; return", "trap nil in 2:"},
		{"n = int 1; zerocheck n; return", "exit in 3:"},
		{"n = int -1; zerocheck n; return", "exit in 3:"},
		{fmt.Sprintf("n = int %d; zerocheck n; return", math.MinInt), "exit in 3:"},
		{"n = int 0; zerocheck n; return", "trap zero in 2:"},
		{"n = int 4294967296; zerocheck n; return", "exit in 3:"},
	})
	// The size of a list, with its check and without.
	for _, x := range []struct {
		n    int
		fits bool
	}{
		{math.MinInt, false}, {-2, false}, {-1, false}, {0, true}, {1, true}, {impl.MaxMake - 1, true}, {impl.MaxMake, true}, {impl.MaxMake + 1, false}, {1 << 32, false}, {math.MaxInt, false},
	} {
		checked, made, whole := "trap make in 2:", "stuck in 2:", "trap make in 2:"
		if x.fits {
			checked, made, whole = "exit in 3:", fmt.Sprint("exit in 5: ", x.n), fmt.Sprint("exit in 6: ", x.n)
		}
		wantOutcomes(t, heads, []int{x.n}, [][2]string{{"n = read; makecheck n; return", checked}})
		for _, ty := range []string{"[]int", "[]float", "[]*0", "[]*1"} {
			wantOutcomes(t, heads, []int{x.n}, [][2]string{
				{"n = read; l = make " + ty + " n; k = len l; print k; return", made},
				{"n = read; makecheck n; l = make " + ty + " n; k = len l; print k; return", whole},
			})
		}
	}
}

// TestPlacesOfLists: at the ends, of nil, of none; with the check and without.
func TestPlacesOfLists(t *testing.T) {
	for _, ty := range []string{"[]int", "[]float", "[]*0", "[]*1"} {
		for _, x := range []struct {
			list string
			size int
		}{{"nil " + ty, 0}, {"make " + ty + " none", 0}, {"make " + ty + " one", 1}, {"make " + ty + " most", impl.MaxMake}} {
			heads := "struct int; struct; fn main; none = int 0; one = int 1; most = int 100; i = read; l = " + x.list + "; "
			for _, at := range []int{math.MinInt, -2, -1, 0, 1, 2, x.size - 1, x.size, x.size + 1, impl.MaxMake, math.MaxInt} {
				checked, got := "trap index in 6:", "stuck in 6:"
				if at >= 0 && at < x.size {
					checked, got = "exit in 7:", "exit in 8:"
				}
				wantOutcomes(t, heads, []int{at}, [][2]string{{"indexcheck l i; return", checked}, {"e = get l i; put l i e; return", got}})
				if got[0] == 's' {
					value := map[string]string{"[]int": "int 1", "[]float": "float 1", "[]*0": "new 0", "[]*1": "nil *1"}[ty]
					wantOutcomes(t, heads, []int{at}, [][2]string{{"e = " + value + "; put l i e; return", "stuck in 7:"}, {"e = " + value + "; indexcheck l i; put l i e; return", "trap index in 7:"}})
				}
			}
		}
	}
}

// TestFieldsOfNil can't be loaded or stored.
func TestFieldsOfNil(t *testing.T) {
	heads := "struct int float *1 []int; struct *0; fn main; x = int 5; print x; p = nil *0; q = nil *1; f = float 1; l = nil []int; "
	wantOutcomes(t, heads, nil, [][2]string{
		{"v = load 0 p; print v; return", "stuck in 7: 5"}, {"v = load 1 p; return", "stuck in 7: 5"}, {"v = load 2 p; return", "stuck in 7: 5"}, {"v = load 3 p; return", "stuck in 7: 5"}, {"v = load 0 q; return", "stuck in 7: 5"},
		{"store 0 p x; print x; return", "stuck in 7: 5"}, {"store 1 p f; return", "stuck in 7: 5"}, {"store 2 p q; return", "stuck in 7: 5"}, {"store 3 p l; return", "stuck in 7: 5"}, {"store 0 q p; return", "stuck in 7: 5"},
		{"nilcheck p; v = load 0 p; return", "trap nil in 7: 5"}, {"nilcheck q; store 0 q p; return", "trap nil in 7: 5"},
		// A check of another one does not help.
		{"r = new 0; nilcheck r; v = load 0 p; return", "stuck in 9: 5"},
	})
}

// TestStuckGoesNoFurther: nothing behind it is done, in no call that is under way.
func TestStuckGoesNoFurther(t *testing.T) {
	wantOutcomeOf(t, "fn f a:int > int; print a; z = int 0; y = div a z; print y; return y; fn main; x = int 3; y = call f x; print y; return", nil, "stuck in 5: 3")
	wantOutcomeOf(t, "fn f a:int > int; b = less a a; if b c d; c :; return a; d :; e = sub a b; l = make []int e; k = len l; print k; m = sub k a; n = rem k m; return n; fn main; x = int 3; y = call f x; print y; return", nil, "stuck in 10: 3")
}

func TestSamePointers(t *testing.T) {
	heads := "struct int *0; struct; fn main; p = new 0; q = new 0; n = nil *0; m = nil *0; e = new 1; d = new 1; o = nil *1; "
	wantOutcomes(t, heads, nil, [][2]string{
		{"s = same n m; print s; return", "exit in 10: 1"}, {"s = same n n; print s; return", "exit in 10: 1"}, {"s = same o o; print s; return", "exit in 10: 1"},
		{"s = same p p; print s; return", "exit in 10: 1"}, {"s = same e e; print s; return", "exit in 10: 1"},
		// Like fields, or none at all, do not make two one.
		{"s = same p q; print s; return", "exit in 10: 0"}, {"s = same q p; print s; return", "exit in 10: 0"}, {"s = same e d; print s; return", "exit in 10: 0"},
		{"s = same p n; print s; return", "exit in 10: 0"}, {"s = same n q; print s; return", "exit in 10: 0"}, {"s = same e o; print s; return", "exit in 10: 0"},
		// One that was stored is the one that is loaded.
		{"store 1 p q; r = load 1 p; s = same r q; print s; t = same r p; print t; return", "exit in 14: 1 0"},
		{"r = load 1 p; s = same r n; print s; return", "exit in 11: 1"},
		{"store 1 p p; r = load 1 p; t = load 1 r; s = same t p; print s; return", "exit in 13: 1"},
	})
}

func TestLengthsInUnits(t *testing.T) {
	heads := "struct []int []*0; fn main; none = int 0; two = int 2; p = new 0; "
	wantOutcomes(t, heads, nil, [][2]string{
		{"l = nil []int; k = len l; print k; return", "exit in 7: 0"}, {"l = nil []float; k = len l; print k; return", "exit in 7: 0"}, {"l = nil []*0; k = len l; print k; return", "exit in 7: 0"},
		{"l = make []int none; k = len l; print k; return", "exit in 7: 0"}, {"l = make []*0 two; k = len l; print k; return", "exit in 7: 2"},
		{"l = load 0 p; k = len l; print k; return", "exit in 7: 0"}, {"l = load 1 p; k = len l; print k; return", "exit in 7: 0"},
		{"l = make []int two; store 0 p l; m = load 0 p; k = len m; print k; return", "exit in 9: 2"},
	})
}

// TestZeroesAtFirst: fields and places of each type.
func TestZeroesAtFirst(t *testing.T) {
	wantOutcomeOf(t, `struct int float *1 []int []*0
struct *0
fn main; p = new 0; n = nil *1; k = int 3; last = int 2
a = load 0 p; print a; b = load 1 p; print b; c = load 2 p; s = same c n; print s; d = load 3 p; e = len d; print e; f = load 4 p; g = len f; print g
is = make []int k; h = get is last; print h; fs = make []float k; i = get fs last; print i; ps = make []*1 k; j = get ps last; u = same j n; print u
return`, nil, "exit in 28: 0 0f0000000000000000 1 0 0 0 0f0000000000000000 1")
	// What was made and set ahead is not seen in what is made later.
	wantOutcomeOf(t, `struct int
fn main; k = int 2; nine = int 9; one = int 1; jump h k
h n:int :; p = new 0; v = load 0 p; print v; store 0 p nine; l = make []int k; w = get l one; print w; put l one nine; if n b o
b :; m = sub n one; jump h m
o :; return`, nil, "exit in 36: 0 0 0 0 0 0")
}

// TestSharedObjects: what two values lead to is one thing.
func TestSharedObjects(t *testing.T) {
	heads := `struct int float *0 []int
fn setp p:*0 x:int; store 0 p x; return
fn seti l:[]int i:int x:int; put l i x; return
fn back p:*0 > *0; return p
fn main; i = int 1; two = int 2; nine = int 9; p = new 0; q = new 0; l = make []int two; `
	wantOutcomes(t, heads, nil, [][2]string{
		{"store 0 p nine; v = load 0 p; print v; w = load 0 q; print w; return", "exit in 12: 9 0"},
		{"call setp p nine; v = load 0 p; print v; w = load 0 q; print w; return", "exit in 14: 9 0"},
		{"store 2 p q; r = load 2 p; store 0 r nine; v = load 0 q; print v; return", "exit in 12: 9"},
		{"r = call back p; store 0 r two; v = load 0 p; print v; return", "exit in 12: 2"},
		{"call seti l i nine; v = get l i; print v; return", "exit in 12: 9"},
		{"store 3 p l; store 3 q l; m = load 3 p; put m i nine; n = load 3 q; v = get n i; print v; o = make []int two; w = get o i; print w; return", "exit in 17: 9 0"},
		{"ps = make []*0 two; put ps i p; r = get ps i; store 0 r two; v = load 0 p; print v; s = same r p; print s; return", "exit in 15: 2 1"},
		// A value keeps what it was, whatever is stored later.
		{"v = load 0 p; store 0 p nine; w = load 0 p; print v; print w; x = get l i; put l i two; y = get l i; print x; print y; return", "exit in 17: 0 9 0 2"},
		// Each field is its own.
		{"f = float 1; store 0 p nine; store 1 p f; store 2 p q; store 3 p l; a = load 0 p; b = load 1 p; c = load 2 p; d = load 3 p; print a; print b; s = same c q; print s; e = len d; print e; return", "exit in 22: 9 0f3ff0000000000000 1 2"},
	})
}

// TestManyObjectsInUnits: as many as fuel is enough for, the greatest there are.
func TestManyObjectsInUnits(t *testing.T) {
	u := unitOf(`struct *0 []int
fn main; n = int 100; last = int 99; p = nil *0; jump h p
h q:*0 :; r = new 0; l = make []int n; put l last n; store 0 r q; store 1 r l; jump h r`)
	if o := runUnit(t, u, nil, impl.MaxFuel); o.End != impl.EndFuel || o.Steps != impl.MaxFuel {
		t.Error(o.End, o.Steps)
	}
	wantOutcomeOf(t, `struct int *0
fn main; n = int 50; one = int 1; none = nil *0; jump h n none
h k:int p:*0 :; q = new 0; store 0 q k; store 1 q p; if k b sum
b :; m = sub k one; jump h m q
sum :; z = int 0; jump s q z
s r:*0 t:int :; i = same r none; if i o c
c :; v = load 0 r; w = add t v; x:*0 = load 1 r; jump s x w
o :; print t; return`, nil, "exit in 620: 1275")
}
