package tests

import (
	"fmt"
	"slices"
	"strings"
	"testing"

	"loop.example/g00306/impl"
)

// readsAndPrints is so many values with a name and a number that are all there at once, what is done between, and a print
// of each.
func readsAndPrints(name string, count int, between string) string {
	var text strings.Builder
	for n := range count {
		fmt.Fprintf(&text, "%s%d = read; ", name, n)
	}
	text.WriteString(between)
	for n := range count {
		fmt.Fprintf(&text, "print %s%d; ", name, n)
	}
	return text.String()
}

// oneByOne is so many values of which each is across a call of its own, and nobody needs two.
func oneByOne(count int) string {
	var text strings.Builder
	for n := range count {
		text.WriteString(readsAndPrints(fmt.Sprint("x", n, "y"), 1, "call none; "))
	}
	return text.String()
}

// TestMostSlots: as many as there may be are told, one more is not; of values across a safe place, of those for which no
// register is left, and of both.
func TestMostSlots(t *testing.T) {
	t.Parallel()
	const half = impl.MaxSlots / 2
	tail := "return; fn none; return"
	for what, body := range map[string]func(slots int) string{
		"across a call":    func(slots int) string { return readsAndPrints("x", slots, "call none; ") },
		"across an object": func(slots int) string { return readsAndPrints("x", slots, "p = new 0; ") },
		"no register left": func(slots int) string { return readsAndPrints("x", slots+impl.Regs, "") },
		"of both": func(slots int) string {
			return readsAndPrints("x", half, "call none; ") + readsAndPrints("y", slots-half+impl.Regs, "")
		},
		"one by one": oneByOne,
	} {
		for _, slots := range []int{impl.MaxSlots - 1, impl.MaxSlots} {
			list, ok := homes(t, unitOf("struct; fn main; "+body(slots)+tail), 0)
			if !ok || slices.Max(list) != impl.Regs+slots-1 {
				t.Errorf("%s: %d slots: %v, %v", what, slots, ok, list)
			}
		}
		if list, ok := homes(t, unitOf("struct; fn main; "+body(impl.MaxSlots+1)+tail), 0); ok || len(list) > 0 {
			t.Errorf("%s: one slot too many is told", what)
		}
		if list, ok := impl.Homes(unitOf("struct; fn main; "+body(2*impl.MaxSlots)+tail), 0); ok || len(list) > 0 {
			t.Errorf("%s: twice as many slots are told", what)
		}
	}
}

// TestTooManySlotsUsedTwice: what Homes refuses, since it uses no slot twice, may have homes still; but not where so many
// are needed at once.
func TestTooManySlotsUsedTwice(t *testing.T) {
	count := impl.MaxSlots + 1
	u := unitOf("fn main; " + oneByOne(count) + "return; fn none; return")
	one, two := make([]int, 3*count), make([]int, 3*count)
	for n := range count {
		copy(one[3*n:], []int{impl.Regs, -1, -1})
		copy(two[3*n:], []int{impl.Regs + n%2*(impl.MaxSlots-1), -1, -1})
	}
	if !homesOk(t, u, 0, one) || !homesOk(t, u, 0, two) {
		t.Error("slots may be used twice")
	}
	one[3*(count-1)] = impl.Regs - 1
	if homesOk(t, u, 0, one) {
		t.Error("the last one is in a register across a call")
	}
	u = unitOf("fn main; " + readsAndPrints("x", count, "call none; ") + "return; fn none; return")
	list := slices.Repeat([]int{-1}, 2*count+1)
	for n := range count {
		list[n] = impl.Regs + n
	}
	if homesOk(t, u, 0, list) {
		t.Error("one more than there may be is taken")
	}
	for home := range impl.Regs + impl.MaxSlots {
		list[count-1] = home
		if impl.HomesOk(u, 0, list) {
			t.Errorf("with the home %d for the last one it is taken", home)
		}
	}
}

// TestOtherFunctionsWithTooManySlots: they play no part.
func TestOtherFunctionsWithTooManySlots(t *testing.T) {
	u := unitOf("fn f; " + readsAndPrints("x", impl.MaxSlots+1, "call main; ") + "return; fn main; x = read; print x; return")
	if list, ok := homes(t, u, 0); ok || len(list) > 0 {
		t.Error("too many slots are told")
	}
	if list, ok := homes(t, u, 1); !ok || fmt.Sprint(list) != "[0 -1]" {
		t.Error(ok, list)
	}
}

// TestManyValuesWithHomes: as many as there may be, in one block and over as many blocks as there may be, with the numbers
// of blocks for and against the way.
func TestManyValuesWithHomes(t *testing.T) {
	t.Parallel()
	u := impl.Unit{Fns: []impl.Fn{manyVals(impl.MaxVals)}}
	list, ok := impl.Homes(u, 0)
	if !ok || !slices.Equal(list, make([]int, impl.MaxVals)) || !impl.HomesOk(u, 0, list) {
		t.Errorf("%v: %v", ok, list)
	}
	for what, f := range map[string]impl.Fn{"in order": chain(impl.MaxBlocks), "against it": chainAgainst(impl.MaxBlocks)} {
		u := impl.Unit{Fns: []impl.Fn{throughAll(linked(f), impl.MaxSlots/2)}}
		list, ok := impl.Homes(u, 0)
		wantHomesSecond(t, u, 0, list, ok)
		if !ok || !impl.HomesOk(u, 0, list) {
			t.Fatalf("%s: %v: %v", what, ok, list)
		}
		// The first and the last one of those that go through all, in one home.
		list[0] = list[impl.MaxSlots/2-1]
		if impl.HomesOk(u, 0, list) {
			t.Errorf("%s: two that are needed together have one home", what)
		}
	}
}

// throughAll puts so many values into the first block of a function that each other block uses one of them, and the one
// that ends it all of them.
func throughAll(f impl.Fn, count int) impl.Fn {
	for n := range count {
		f.Vals = append(f.Vals, impl.Val{Op: impl.VaRead, Ty: tyInt()})
		f.Blocks[0].Code = append(f.Blocks[0].Code, n)
	}
	use := func(b int, n int) {
		f.Blocks[b].Code = append(f.Blocks[b].Code, len(f.Vals))
		f.Vals = append(f.Vals, impl.Val{Op: impl.VaZeroCheck, Args: []int{n}})
	}
	for b := range f.Blocks {
		if b > 0 {
			use(b, b%count)
		}
		for n := range count {
			if len(f.Blocks[b].Out) == 0 {
				use(b, n)
			}
		}
	}
	return f
}
