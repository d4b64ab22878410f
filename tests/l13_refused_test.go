package tests

import (
	"fmt"
	"strings"
	"testing"

	"loop.example/g00306/impl"
)

// wantNoImage fails unless Emit tells the zero value and false.
func wantNoImage(t *testing.T, what string, u impl.Unit) {
	t.Helper()
	if m, ok := emit(t, u); ok || !sameImage(m, impl.Image{}) {
		t.Errorf("%s: %v:\n%s", what, ok, moText(m))
	}
}

func TestEmittedOfNoUnits(t *testing.T) {
	for what, u := range faultyUnits() {
		wantNoImage(t, what, u)
	}
	for _, text := range noUnits {
		wantNoImage(t, text, unitOf(text))
	}
	wantNoImage(t, "too many values", impl.Unit{Fns: []impl.Fn{manyVals(impl.MaxVals + 1)}})
	wantNoImage(t, "too many blocks", impl.Unit{Fns: []impl.Fn{linked(chain(impl.MaxBlocks + 1))}})
}

// TestEmittedOneThingTurned: whatever number or list is another, it is refused just where it is no unit.
func TestEmittedOneThingTurned(t *testing.T) {
	t.Parallel()
	numbers := spread(60000)
	m := newMaker(numbers, 103)
	well, refused := 0, 0
	for round := range 70 {
		u := newUnitMaker(numbers, round*73+11).unit()
		if round%4 == 0 {
			u = unitOf(append(homeTexts, refusedText)[m.pick(len(homeTexts)+1)])
		}
		for range 12 {
			turned := turnOne(m, u)
			image, ok := emit(t, turned)
			if ok != impl.UnitOk(turned) {
				t.Fatalf("%v of\n%s", ok, showUnit(turned))
			}
			if ok {
				well++
				wantImageDoes(t, turned, image, []int{1, 2, 3})
			} else {
				refused++
			}
		}
	}
	if well < 100 || refused < 400 {
		t.Errorf("%d are well, %d are refused", well, refused)
	}
}

// TestEmittedMostSlots: as many as there may be; one more in any function, called or not, and it is refused.
func TestEmittedMostSlots(t *testing.T) {
	t.Parallel()
	body := func(slots int) string { return readsAndPrints("x", slots, "call none; ") + "return; " }
	great, less := body(impl.MaxSlots+1), body(impl.MaxSlots)
	for _, names := range [][3]string{{"main", "none", "other"}, {"none", "main", "other"}, {"other", "none", "main"}} {
		fns := func(of func(name string) string) string {
			text := ""
			for _, name := range names {
				text += "fn " + name + "; " + of(name)
			}
			return text
		}
		for _, name := range names {
			one := func(with string) string {
				return fns(func(other string) string {
					if other == name {
						return with
					}
					return "return; "
				})
			}
			if m := emitted(t, one(less)); !impl.ImageOk(m) {
				t.Errorf("%s has as many slots as there may be: %s", name, moText(m))
			}
			wantNoImage(t, name+" has one slot too many", unitOf(one(great)))
		}
	}
	if c := emitted(t, "fn main; "+less+"fn none; return").Codes[0]; c.Frame != impl.Head+impl.MaxSlots {
		t.Error(c.Frame)
	}
}

// insByUses is a body of as many values as there may be, which comes to 5999, 6000 or 6001 instructions: nearly all values
// put out what is in a slot, by two instructions each.
func insByUses(count int) string {
	last := map[int]string{5999: "y = int 0; ", 6000: "print x; ", 6001: "y = add x x; "}[count]
	// Two that read and store x, the call, the return, and 2 * 2997.
	return "x = read; call none; " + strings.Repeat("print x; ", 2997) + last + "return"
}

// insByEdges is a body whose instructions are nearly all those of so many edges with so many Args, and so many more, of
// one value each.
func insByEdges(edges int, args int, more int) string {
	var text, params strings.Builder
	text.WriteString("x = read; " + strings.Repeat("read; ", more) + "jump c0; ")
	for n := range edges {
		fmt.Fprintf(&text, "c%d :; if x d%d c%d; d%d :; jump h%s; ", n, n, n+1, n, strings.Repeat(" x", args))
	}
	for n := range args {
		fmt.Fprintf(&params, " p%d:int", n)
	}
	return text.String() + fmt.Sprintf("c%d :; return; h%s :; print p0; print p%d; return", edges, params.String(), args-1)
}

// TestEmittedMostInstructions: just as many as there may be, and one more; in main and in another function, of values and
// of edges.
func TestEmittedMostInstructions(t *testing.T) {
	t.Parallel()
	plain := len(emitted(t, "fn main; "+insByEdges(40, 50, 0)+"; fn none; return").Codes[0].Ins)
	// 50 stores, 50 loads, 44 stores into slots, a jump; and two for each choice.
	if plain != 2+40*147+1+4 {
		t.Fatalf("%d instructions", plain)
	}
	for _, count := range []int{impl.MaxCode - 1, impl.MaxCode, impl.MaxCode + 1} {
		for what, body := range map[string]string{"uses": insByUses(count), "edges": insByEdges(40, 50, count-plain)} {
			for n, text := range []string{"fn main; " + body + "; fn none; return", "fn none; return; fn main; " + body, "fn main; return; fn none; return; fn other; " + body} {
				u := unitOf(text)
				if count > impl.MaxCode {
					wantNoImage(t, fmt.Sprint(count, " instructions of ", what), u)
				} else if m, ok := emit(t, u); !ok || len(m.Codes[n].Ins) != count {
					t.Errorf("%d of %s: %v", count, what, ok)
				} else {
					wantRunAlike(t, u, m, roomySetup(1, 2, 3))
				}
			}
		}
	}
}

// TestEmittedFarTooMuch: what would come to very many instructions or slots of maps is refused, and soon.
func TestEmittedFarTooMuch(t *testing.T) {
	t.Parallel()
	u := unitOf("fn main; " + insByEdges(198, impl.MaxSlots+impl.Regs, 0))
	for len(u.Fns) < impl.MaxFuncs {
		u.Fns = append(u.Fns, u.Fns[0])
	}
	if _, ok := impl.Homes(u, 7); !ok {
		t.Fatal("no homes")
	}
	if m, ok := impl.Emit(u); ok || !sameImage(m, impl.Image{}) {
		t.Error("so many edges are taken")
	}
	var made, used strings.Builder
	for n := range impl.MaxSlots {
		fmt.Fprintf(&made, "p%d = nil *0; ", n)
		fmt.Fprintf(&used, "nilcheck p%d; ", n)
	}
	if m, ok := impl.Emit(unitOf("struct; fn main; " + made.String() + strings.Repeat("call none; ", 2000) + used.String() + "return; fn none; return")); ok || !sameImage(m, impl.Image{}) {
		t.Error("so many maps are taken")
	}
}

// plainFn is a body that comes to so many instructions, from some thousands on, without a safe place: nearly all of its
// values put out what is in a slot for want of a register.
func plainFn(count int) string {
	const twos = 2600
	// 7 that read, one that stores, and behind all 6 that put out what is in a register, two for the slot, the return.
	return "a = read; b = read; c = read; d = read; e = read; f = read; g = read; " + strings.Repeat("print g; ", twos) + strings.Repeat("print a; ", count-2*twos-17) +
		"print a; print b; print c; print d; print e; print f; print g; return"
}

// TestEmittedMostBytes: just as many as there may be, and one more; nearly all of them of instructions, or of maps.
func TestEmittedMostBytes(t *testing.T) {
	t.Parallel()
	// 8 bytes ahead, 8 of each of three codes, 12 of each of 16664 instructions: that is MaxImage.
	plain := func(structs string, count int) string {
		return structs + "fn main; " + plainFn(5555) + "; fn g; " + plainFn(5555) + "; fn h; " + plainFn(count-2*5555)
	}
	wantSize(t, plain("", 16664), impl.MaxImage)
	wantSize(t, plain("struct int int int int int; struct int *1; ", 16663), impl.MaxImage-1)
	wantSize(t, plain("struct int int int int int; struct int *1 int int; ", 16663), impl.MaxImage+1)
	wantSize(t, plain("struct; ", 16664), impl.MaxImage+2)
	wantSize(t, plain("", 16665), impl.MaxImage+12)
	// 416 bytes of each call with a map of 200 slots.
	var made, used strings.Builder
	for n := range 200 {
		fmt.Fprintf(&made, "p%d = nil []int; ", n)
		fmt.Fprintf(&used, "n%d = len p%d; ", n, n)
	}
	mapped := func(structs string, calls int, more int) string {
		return structs + "fn main; " + strings.Repeat("read; ", more) + made.String() + strings.Repeat("call none; ", calls) + used.String() + "return; fn none; return"
	}
	bytes := 8 + 8 + 12*(400+457+400+1+19) + 457*404 + 8 + 12
	wantSize(t, mapped("", 457, 19), bytes)
	if bytes != impl.MaxImage-12 {
		t.Fatal(bytes)
	}
	wantSize(t, mapped("struct *0 *0 *0 *0 *0; struct []int []int []int; ", 457, 19), impl.MaxImage)
	wantSize(t, mapped("struct *0 *0 *0 *0 *0; struct []int []int []int []int; ", 457, 19), impl.MaxImage+1)
	wantSize(t, mapped("", 457, 20), impl.MaxImage)
	wantSize(t, mapped("", 458, 19), impl.MaxImage-12+416)
}

// wantSize fails unless a text's unit, which would come to so many bytes, is taken just where these may be.
func wantSize(t *testing.T, text string, size int) {
	t.Helper()
	if size > impl.MaxImage {
		wantNoImage(t, fmt.Sprint(size, " bytes"), unitOf(text))
		return
	}
	b, ok := impl.ImageBytes(emitted(t, text))
	if !ok || len(b) != size {
		t.Errorf("%v, %d bytes, want %d", ok, len(b), size)
	}
}
