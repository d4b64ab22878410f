package tests

import (
	"fmt"
	"testing"

	"loop.example/g00306/impl"
)

// round is a unit that goes round a loop k times, with x, y, z at first 1, 2, 3, which are put out each time; the edge
// back brings others in their places.
func round(k int, back string) string {
	return fmt.Sprintf(`fn main; a = int 1; b = int 2; c = int 3; k = int %d; one = int 1; jump h a b c k
h x:int y:int z:int n:int :; print x; print y; print z; if n more out
more :; m = sub n one; jump h %s m
out :; return`, k, back)
}

// TestParamsAreSetAtOnce: what an edge brings was taken ahead of all that it sets.
func TestParamsAreSetAtOnce(t *testing.T) {
	for _, x := range [][2]string{
		{"x y z", "1 2 3 1 2 3 1 2 3 1 2 3"},
		// Two change places.
		{"y x z", "1 2 3 2 1 3 1 2 3 2 1 3"},
		{"x z y", "1 2 3 1 3 2 1 2 3 1 3 2"},
		{"z y x", "1 2 3 3 2 1 1 2 3 3 2 1"},
		// Rings of three, both ways round.
		{"y z x", "1 2 3 2 3 1 3 1 2 1 2 3"},
		{"z x y", "1 2 3 3 1 2 2 3 1 1 2 3"},
		// One goes on to the next, and is its own.
		{"x x y", "1 2 3 1 1 2 1 1 1 1 1 1"},
		{"y z z", "1 2 3 2 3 3 3 3 3 3 3 3"},
		{"z z z", "1 2 3 3 3 3 3 3 3 3 3 3"},
		{"n x y", "1 2 3 3 1 2 2 3 1 1 2 3"},
		{"m n x", "1 2 3 2 3 1 1 2 2 0 1 1"},
		{"a z y", "1 2 3 1 3 2 1 2 3 1 3 2"},
	} {
		wantOutcomeOf(t, round(3, x[0]), nil, fmt.Sprintf("exit in %d: %s", 6+4*4+3*2+1, x[1]))
	}
}

// TestParamsOfOwnEdges: a block may lead to itself.
func TestParamsOfOwnEdges(t *testing.T) {
	for _, x := range []struct {
		text string
		fuel int
		want string
	}{
		{"fn main; a = int 1; b = int 2; jump h a b; h x:int y:int :; print x; print y; jump h y x", 12, "fuel in 12: 1 2 2 1 1 2"},
		{"fn main; a = int 1; b = int 2; c = int 3; jump h a b c; h x:int y:int z:int :; print x; jump h y z x", 12, "fuel in 12: 1 2 3 1"},
		{"fn main; a = int 1; jump h a; h x:int :; print x; jump h x", 9, "fuel in 9: 1 1 1 1"},
		{"fn main; a = int 1; jump h a a; h x:int y:int :; print x; s = add x y; jump h y s", 17, "fuel in 17: 1 1 2 3 5"},
		{"fn main; a = int 1; jump h a a; h x:int y:int :; s = add x y; print y; jump h s x", 17, "fuel in 17: 1 1 2 3 5"},
	} {
		u := unitOf(x.text)
		if o := runUnit(t, u, nil, x.fuel); outcomeText(o) != x.want {
			t.Errorf("%s: %s, want %s", x.text, outcomeText(o), x.want)
		}
		if o := runWhole(t, u, nil); o.End != impl.EndFuel {
			t.Errorf("%s: %s", x.text, outcomeText(o))
		}
	}
	wantOutcomeOf(t, "fn main; jump h; h :; x = read; print x; if x h o; o :; print x; return", []int{3, 2, 1}, "exit in 15: 3 2 1 0 0")
	wantOutcomeOf(t, "fn main; jump h; h :; x = read; print x; if x o h; o :; print x; return", []int{0, 0, 5}, "exit in 12: 0 0 5 5")
}

// TestParamsOfManyEdges: a block is told apart by where it was come from.
func TestParamsOfManyEdges(t *testing.T) {
	text := "fn main; x = read; one = int 1; two = int 2; if x a b; a :; jump c one two; b :; jump c two one; c p:int q:int :; print p; print q; return"
	wantOutcomeOf(t, text, []int{7}, "exit in 8: 1 2")
	wantOutcomeOf(t, text, []int{0}, "exit in 8: 2 1")
	// Other types go the same way: floats, pointers, lists.
	wantOutcomeOf(t, `struct int
fn main; f = float 1; g = float 2; p = new 0; q = nil *0; i = int 1; l = make []int i; m = nil []int; k = int 1; jump h f g p q l m k
h f1:float g1:float p1:*0 q1:*0 l1:[]int m1:[]int n:int :; print f1; print g1; s = same p1 p; print s; z = len l1; print z; y = len m1; print y; if n b o
b :; d = sub n i; jump h g1 f1 q1 p1 m1 l1 d
o :; return`, nil, "exit in 30: 0f3ff0000000000000 0f4000000000000000 1 1 0 0f4000000000000000 0f3ff0000000000000 0 0 1")
	// A value of the loop's body stays as it was made when the parameters are set anew.
	wantOutcomeOf(t, "fn main; a = int 5; jump h a a; h x:int y:int :; s = sub x y; t = mul x y; if s o b; b :; u = add t x; jump h u x; o :; print s; print t; print x; print y; return", nil, "exit in 15: 25 150 30 5")
}

// TestManyParamsAtOnce: as many as there may be, all moved by one place.
func TestManyParamsAtOnce(t *testing.T) {
	count := 1400
	f := impl.Fn{Blocks: []impl.Block{{Out: []impl.Edge{{To: 1}}}, {Out: []impl.Edge{{To: 2}}}, {Term: impl.TmReturn}}}
	for n := range count {
		f.Vals = append(f.Vals, impl.Val{Op: impl.VaInt, N: n, Ty: tyInt()})
		f.Blocks[0].Code = append(f.Blocks[0].Code, n)
		f.Blocks[0].Out[0].Args = append(f.Blocks[0].Out[0].Args, n)
	}
	for n := range count {
		f.Vals = append(f.Vals, impl.Val{Ty: tyInt()})
		f.Blocks[1].Params = append(f.Blocks[1].Params, count+n)
		f.Blocks[1].Out[0].Args = append(f.Blocks[1].Out[0].Args, count+(n+1)%count)
	}
	for n := range 100 {
		f.Vals = append(f.Vals, impl.Val{Op: impl.VaPrint, Args: []int{2*count + 100 + n}})
		f.Blocks[2].Code = append(f.Blocks[2].Code, 2*count+n)
	}
	for n := range 100 {
		f.Vals = append(f.Vals, impl.Val{Ty: tyInt()})
		f.Blocks[2].Params = append(f.Blocks[2].Params, 2*count+100+n)
	}
	f.Blocks[1].Out[0].Args = f.Blocks[1].Out[0].Args[count-100:]
	o := runWhole(t, impl.Unit{Fns: []impl.Fn{f}}, nil)
	if o.End != impl.EndExit || o.Steps != count+103 || len(o.Out) != 100 {
		t.Fatal(outcomeText(o))
	}
	for n, item := range o.Out {
		if item.N != (count-99+n)%count {
			t.Errorf("the parameter %d is %d", n, item.N)
		}
	}
}
