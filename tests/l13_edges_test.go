package tests

import (
	"fmt"
	"slices"
	"strings"
	"testing"

	"loop.example/g00306/impl"
)

// TestEmittedEdges: all Args are in temps before a parameter is made.
func TestEmittedEdges(t *testing.T) {
	// To the next block, to one further on, to one ahead; without Args.
	wantEmitted(t, "fn main; jump a; a :; return", "code main 3 0; jump a; a :; return")
	wantEmitted(t, "fn main; jump b; a :; return; b :; jump a", "code main 3 0; jump b; a :; return; b :; jump a")
	wantEmitted(t, "fn main; jump a; a :; jump a", "code main 3 0; jump a; a :; jump a")
	// One, in registers; nobody uses the parameter.
	wantEmitted(t, "fn main; x = read; jump a x; a p:int :; return", "code main 4 0; read r0; store r0 3; load r0 3; jump a; a :; return")
	// One goes to two places, and is still there.
	wantEmitted(t, "fn main; x = read; jump a x x; a p:int q:int :; print p; print q; print x; return",
		"code main 5 0; read r0; store r0 3; store r0 4; load r1 3; load r2 4; jump a; a :; print r1; print r2; print r0; return")
}

// TestEmittedEdgesChangePlaces: two change places, three go round, in registers and in slots.
func TestEmittedEdgesChangePlaces(t *testing.T) {
	wantEmitted(t, "fn main; x = int 1; y = int 2; jump h x y; h p:int q:int :; print p; print q; r = read; if r b o; b :; jump h q p; o :; return",
		"code main 5 0; int r0 1; int r1 2; store r0 3; store r1 4; load r0 3; load r1 4; jump h; h :; print r0; print r1; read r2; if r2 o; jump b; b :; store r1 3; store r0 4; load r0 3; load r1 4; jump h; o :; return")
	wantEmitted(t, "fn main; x = int 1; y = int 2; z = int 3; jump h x y z; h p:int q:int s:int :; print p; print q; print s; r = read; if r b o; b :; jump h q s p; o :; return",
		"code main 6 0; int r0 1; int r1 2; int r2 3; store r0 3; store r1 4; store r2 5; load r0 3; load r1 4; load r2 5; jump h; h :; print r0; print r1; print r2; read r3; if r3 o; jump b; b :; "+
			"store r1 3; store r2 4; store r0 5; load r0 3; load r1 4; load r2 5; jump h; o :; return")
	wantEmitted(t, "struct; fn main; x = new 0; y = new 0; jump h x y; h p:*0 q:*0 :; s = same p x; print s; call none; r = read; if r b o; b :; jump h q p; o :; return; fn none; return",
		"struct; code main 8 0; new r15 0; store r15 3; new r0 0 @ 3; load r15 3; store r15 6; store r0 7; load r15 6; store r15 4; load r15 7; store r15 5; jump h; h :; load r12 4; load r13 3; same r0 r12 r13; print r0; "+
			"call none @ 3 4 5; read r0; if r0 o; jump b; b :; load r15 5; store r15 6; load r15 4; store r15 7; load r15 6; store r15 4; load r15 7; store r15 5; jump h; o :; return\ncode none 3 0; return")
	// Into a register what was in a slot, into a slot what was in a register.
	wantEmitted(t, "fn main; x = read; call none; y = read; jump a y x; a p:int q:int :; print q; call none; print p; return; fn none; return",
		"code main 7 0; read r15; store r15 3; call none; read r0; store r0 5; load r15 3; store r15 6; load r15 5; store r15 4; load r0 6; jump a; a :; print r0; call none; load r12 4; print r12; return\ncode none 3 0; return")
}

// TestEmittedEdgesToTheSameBlock: an Arg is a parameter of the block, at its own place, at another one, and twice.
func TestEmittedEdgesToTheSameBlock(t *testing.T) {
	wantEmitted(t, "fn main; x = read; jump h x; h p:int :; print p; jump h p", "code main 4 0; read r0; store r0 3; load r0 3; jump h; h :; print r0; store r0 3; load r0 3; jump h")
	wantEmitted(t, "fn main; x = read; jump h x x; h p:int q:int :; print p; s = add p q; jump h q s",
		"code main 5 0; read r0; store r0 3; store r0 4; load r0 3; load r1 4; jump h; h :; print r0; add r2 r0 r1; store r1 3; store r2 4; load r0 3; load r1 4; jump h")
	wantEmitted(t, "fn main; x = read; y = read; jump h x y; h p:int q:int :; print p; print q; jump h q q",
		"code main 5 0; read r0; read r1; store r0 3; store r1 4; load r0 3; load r1 4; jump h; h :; print r0; print r1; store r1 3; store r1 4; load r0 3; load r1 4; jump h")
	wantEmitted(t, "fn main; x = read; y = read; jump h x y; h p:int q:int :; print p; print q; jump h q p",
		"code main 5 0; read r0; read r1; store r0 3; store r1 4; load r0 3; load r1 4; jump h; h :; print r0; print r1; store r1 3; store r0 4; load r0 3; load r1 4; jump h")
	// A block by itself, in which a parameter is in a slot.
	wantEmitted(t, "fn main; x = read; jump h x; h p:int :; call none; print p; one = int 1; s = add p one; jump h s; fn none; return",
		"code main 5 0; read r0; store r0 4; load r15 4; store r15 3; jump h; h :; call none; load r12 3; print r12; int r0 1; load r12 3; add r1 r12 r0; store r1 4; load r15 4; store r15 3; jump h\ncode none 3 0; return")
}

// TestEmittedEdgesOfEachType: what they are plays no part.
func TestEmittedEdgesOfEachType(t *testing.T) {
	for ty, word := range map[string]string{"int": "int 7", "float": "float 0", "*0": "nil *0", "[]int": "nil []int", "[]float": "nil []float", "[]*0": "nil []*0"} {
		n := 0
		if ty == "int" {
			n = 7
		}
		wantEmitted(t, "struct; fn main; x = "+word+"; jump a x; a p:"+ty+" :; jump b p; b q:"+ty+" :; return",
			fmt.Sprintf("struct; code main 4 0; int r0 %d; store r0 3; load r0 3; jump a; a :; store r0 3; load r0 3; jump b; b :; return", n))
	}
}

// roundUnit is a loop with so many parameters, of which some are pointers. Each turn prints all of them, and has others
// at other places: at the place n what was at order[n]. With a safe place in the loop all are in slots.
func roundUnit(order []int, isSafe bool, m *maker) string {
	var heads, firsts, params, uses, back []string
	for n, from := range order {
		// What changes places must be of one type; so it hangs on the first place of the round that it is in.
		ty := "int"
		if leastOfRound(order, n)%3 == 1 {
			ty = "*0"
			heads = append(heads, fmt.Sprintf("o%d = new 0; k%d = int %d; store 0 o%d k%d; ", n, n, 1000+n, n, n))
			uses = append(uses, fmt.Sprintf("nilcheck p%d; v%d = load 0 p%d; print v%d; ", n, n, n, n))
		} else {
			heads = append(heads, fmt.Sprintf("o%d = int %d; ", n, 10+n))
			uses = append(uses, fmt.Sprintf("print p%d; ", n))
		}
		firsts, params, back = append(firsts, fmt.Sprint("o", n)), append(params, fmt.Sprintf("p%d:%s", n, ty)), append(back, fmt.Sprint("p", from))
	}
	if isSafe {
		uses = append(uses, "s = new 0; ")
		for n := range m.pick(4) {
			uses = append(uses, fmt.Sprintf("s%d = call none; ", n))
		}
	}
	return "struct int; fn main; turns = int 7; " + strings.Join(heads, "") + "jump h turns " + strings.Join(firsts, " ") + "; h n:int " + strings.Join(params, " ") + " :; " + strings.Join(uses, "") +
		"if n b o; b :; one = int 1; m = sub n one; jump h m " + strings.Join(back, " ") + "; o :; return; fn none; return"
}

// leastOfRound is the least place from which one comes to a place again and again.
func leastOfRound(order []int, n int) int {
	seen := []int{}
	for !slices.Contains(seen, n) {
		seen = append(seen, n)
		n = order[n]
	}
	return slices.Min(seen)
}

// TestEmittedRounds: up to twice as many parameters as there are registers change places in all sorts of orders, in
// registers and in slots.
func TestEmittedRounds(t *testing.T) {
	t.Parallel()
	numbers := spread(9000)
	m := &unitMaker{maker: maker{numbers: numbers}}
	regs, slots := 0, 0
	for count := 1; count <= 2*impl.Regs; count++ {
		for round := range 8 {
			order := m.turned(count, 0)
			if round == 0 {
				// Each goes to the next place.
				for n := range order {
					order[n] = (n + 1) % count
				}
			}
			text := roundUnit(order, round%2 == 1, &m.maker)
			u := unitOf(text)
			image, ok := emit(t, u)
			if !ok {
				t.Fatalf("refused: %s", text)
			}
			o, list := wantImageDoes(t, u, image, nil)
			if o.End != impl.EndExit || len(o.Out) != 8*count || list[0].End != impl.EndExit {
				t.Errorf("%s: %s", text, outcomeText(o))
			}
			homes, _ := impl.Homes(u, 0)
			for _, v := range u.Fns[0].Blocks[1].Params {
				if homes[v] < impl.Regs {
					regs++
				} else {
					slots++
				}
			}
		}
	}
	if regs < 100 || slots < 300 {
		t.Errorf("%d in registers, %d in slots", regs, slots)
	}
}

// TestEmittedEdgesFromManyBlocks: one block, to which several lead with other Args each.
func TestEmittedEdgesFromManyBlocks(t *testing.T) {
	wantEmitted(t, "fn main; x = read; y = read; if x a b; a :; jump c x y; b :; jump c y x; c p:int q:int :; d = sub p q; print d; return",
		"code main 5 0; read r0; read r1; if r0 b; jump a; a :; store r0 3; store r1 4; load r0 3; load r1 4; jump c; b :; store r1 3; store r0 4; load r0 3; load r1 4; jump c; c :; sub r2 r0 r1; print r2; return")
	// Numbered the other way round: the block that is led to comes first.
	wantEmitted(t, "fn main; x = read; jump b x; a p:int q:int :; d = sub p q; print d; return; b s:int :; u = add s s; jump a u s",
		"code main 5 0; read r0; store r0 3; load r0 3; jump b; a :; sub r2 r0 r1; print r2; return; b :; add r1 r0 r0; store r1 3; store r0 4; load r0 3; load r1 4; jump a")
}
