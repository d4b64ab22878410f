package tests

import (
	"slices"
	"strings"
	"testing"

	"loop.example/g00306/impl"
)

// opsHeads has values of all sorts, but no safe place; opsTail the functions that may be called.
const (
	opsHeads = "struct int *0; fn main; i = read; j = read; x = float 1; y = float 2; p = nil *0; q = nil *0; l = nil []int; m = nil []*0; "
	opsTail  = "; fn none; return; fn one > int; r = int 1; return r; fn all a:int b:float c:*0 d:[]int > float; return b"
)

// wantEachOp fails unless all ops but those that are left out come up in the texts.
func wantEachOp(t *testing.T, texts []string, but ...int) {
	t.Helper()
	seen := make([]bool, impl.VaCall+1)
	for _, text := range texts {
		u := unitOf(opsHeads + text + "; return" + opsTail)
		code := u.Fns[0].Blocks[0].Code
		seen[u.Fns[0].Vals[code[len(code)-1]].Op] = true
	}
	for op, is := range seen {
		if is == slices.Contains(but, op) {
			t.Errorf("the op %d comes up: %v", op, is)
		}
	}
}

// TestEachOpUses: what a value of an op uses is alive ahead of its block, and no more is; and across what lies between.
func TestEachOpUses(t *testing.T) {
	var texts []string
	for _, want := range [][2]string{
		{"v = int 7", ""}, {"v = float 1.5", ""}, {"v = nil *0", ""}, {"v = nil []int", ""}, {"v = new 0", ""}, {"v = read", ""}, {"v = call none", ""}, {"v = call one", ""},
		{"v = add i j", " i j"}, {"v = sub j i", " i j"}, {"v = mul i i", " i"}, {"v = div j j", " j"}, {"v = rem i j", " i j"}, {"v = less i j", " i j"}, {"v = eq j i", " i j"},
		{"v = fadd x y", " x y"}, {"v = fsub y x", " x y"}, {"v = fmul y y", " y"}, {"v = fdiv x x", " x"}, {"v = fless x y", " x y"}, {"v = feq y x", " x y"},
		{"v = same p q", " p q"}, {"v = same q q", " q"}, {"v = toint x", " x"}, {"v = tofloat j", " j"}, {"v = len l", " l"}, {"v = len m", " m"},
		{"v = make []int j", " j"}, {"v = make []*0 i", " i"}, {"v = nilcheck q", " q"}, {"v = indexcheck m j", " j m"}, {"v = zerocheck i", " i"}, {"v = makecheck j", " j"},
		{"v = load 0 p", " p"}, {"v = load 1 q", " q"}, {"v = store 0 q j", " j q"}, {"v = store 1 q p", " p q"}, {"v = store 1 p p", " p"},
		{"v = get l i", " i l"}, {"v = get m j", " j m"}, {"v = put l j i", " i j l"}, {"v = put l i i", " i l"}, {"v = put m j q", " j q m"},
		{"v = print j", " j"}, {"v = print y", " y"}, {"v = call all j x q l", " j x q l"}, {"v = call all i y p l", " i y p l"},
	} {
		texts = append(texts, want[0])
		text := opsHeads + "c = call none; jump a; a :; d = new 0; jump o; o :; e = call one; " + want[0] + "; return" + opsTail
		wantLive(t, text, "begin >"+want[1], "a"+want[1]+" >"+want[1], "o"+want[1]+" >")
		lines := []string{"c" + want[1], "d" + want[1], "e" + want[1]}
		if op := unitOf(text).Fns[0].Vals; slices.Contains([]int{impl.VaNew, impl.VaMake, impl.VaCall}, op[len(op)-1].Op) {
			lines = append(lines, "v")
		}
		wantAcross(t, text, lines...)
	}
	wantEachOp(t, texts, impl.VaPhi)
}

// TestEachOpAlive: a value of each op that has a type is alive from where it is made to where it is used.
func TestEachOpAlive(t *testing.T) {
	var texts []string
	for use, values := range map[string][]string{
		"print v":    {"v = int 7", "v = float 1.5", "v = add i j", "v = less i j", "v = fmul x y", "v = feq x y", "v = same p q", "v = toint x", "v = tofloat i", "v = len l", "v = load 0 p", "v = get l i", "v = read", "v = call one", "v = call all i x p l"},
		"nilcheck v": {"v = nil *0", "v = new 0", "v = load 1 p", "v = get m i"},
		"n = len v":  {"v = nil []int", "v = nil []*0", "v = make []float i", "v = make []*0 j"},
	} {
		for _, value := range values {
			texts = append(texts, value)
			heads := opsHeads + value + "; "
			wantLive(t, heads+"jump a; a :; jump o; o :; "+use+"; return"+opsTail, "begin > v", "a v > v", "o v >")
			wantLive(t, heads+"c = read; if c a o; a :; "+use+"; return; o :; return"+opsTail, "begin > v", "a v >", "o >")
			// Made in one block, brought by the next one.
			kind := map[string]string{"print v": "float", "nilcheck v": "*0", "n = len v": "[]int"}[use]
			if u := unitOf(heads + "return" + opsTail); u.Fns[0].Vals[len(u.Fns[0].Vals)-1].Ty == tyOf(kind) {
				wantLive(t, heads+"jump a; a :; jump b v; b r:"+kind+" :; "+strings.Replace(use, "v", "r", 1)+"; return"+opsTail, "begin > v", "a v >", "b >")
			}
		}
	}
	wantEachOp(t, texts, impl.VaPhi, impl.VaNilCheck, impl.VaIndexCheck, impl.VaZeroCheck, impl.VaMakeCheck, impl.VaStore, impl.VaPut, impl.VaPrint)
	for _, ty := range []string{"int", "float", "*0", "[]int", "[]float", "[]*0"} {
		wantLive(t, "struct; fn f a:"+ty+" b:"+ty+" > "+ty+"; jump x b; x p:"+ty+" :; jump y; y :; jump z p; z q:"+ty+" :; jump o; o :; return q; fn main; return",
			"begin >", "x > p", "y p >", "z > q", "o q >")
	}
}
