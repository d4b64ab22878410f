package tests

import (
	"fmt"
	"math"
	"slices"
	"testing"

	"loop.example/g00306/impl"
)

// opBounds are the least and the greatest N of each op in the second code of fourCodes.
var opBounds = [...][2]int{
	impl.MoInt: {math.MinInt, math.MaxInt}, impl.MoCopy: {0, 0}, impl.MoLoad: {3, 8}, impl.MoStore: {3, 8},
	impl.MoArith: {0, 6}, impl.MoDec: {0, 5}, impl.MoSame: {0, 0}, impl.MoToInt: {0, 0}, impl.MoToFloat: {0, 0},
	impl.MoLen: {0, 0}, impl.MoNew: {0, 2}, impl.MoMake: {0, 2}, impl.MoNil: {0, 0}, impl.MoIndex: {0, 0},
	impl.MoZero: {0, 0}, impl.MoSize: {0, 0}, impl.MoGetF: {0, 4}, impl.MoPutF: {0, 4}, impl.MoGetE: {0, 0},
	impl.MoPutE: {0, 0}, impl.MoRead: {0, 0}, impl.MoPrint: {0, 1}, impl.MoPass: {0, 3}, impl.MoCall: {0, 3},
	impl.MoReturn: {0, 1}, impl.MoPanic: {0, 0}, impl.MoJump: {0, 5}, impl.MoIf: {0, 5},
}

// anyN is an N that an op may have there.
func anyN(op int) int {
	if op == impl.MoInt {
		return -1
	}
	return opBounds[op][1]
}

// TestNumberOfEachOp: within its bounds, at them, and past them.
func TestNumberOfEachOp(t *testing.T) {
	for op, bounds := range opBounds {
		with := func(n int) impl.Image { return fourCodes(mo(op, n)) }
		what := fmt.Sprint("op ", op, ", N")
		if op == impl.MoInt {
			wantImages(t, what, true, with, math.MinInt, math.MinInt+1, -1<<32, -256, -1, 0, 1, 255, 256, 65536, 1<<32, 1<<40, math.MaxInt-1, math.MaxInt)
			wantImages(t, what, true, with, spread(40)...)
			continue
		}
		for n := bounds[0]; n <= bounds[1]; n++ {
			wantImage(t, fmt.Sprint(what, " ", n), with(n), true)
		}
		wantImages(t, what, false, with, bounds[0]-1, bounds[0]-2, bounds[1]+1, bounds[1]+2, -1, 9, 100, math.MinInt, math.MinInt+1, math.MaxInt-1, math.MaxInt)
		wantImages(t, what, false, with, oddInts(bounds[1])...)
	}
	if len(opBounds) != impl.MoIf+1 {
		t.Errorf("%d ops", len(opBounds))
	}
}

func TestOpsThatAreNone(t *testing.T) {
	for _, n := range []int{0, 1, 3} {
		with := func(op int) impl.Image { return fourCodes(mo(op, n)) }
		wantImages(t, "op", false, with, -1, -2, impl.MoIf+1, impl.MoIf+2, 255, 256, math.MinInt, math.MaxInt)
		wantImages(t, "op", false, with, oddInts(impl.MoInt)...)
		wantImages(t, "op", false, with, oddInts(impl.MoReturn)...)
	}
	with := func(op int) impl.Image { return fourCodes(mo(op, 0)) }
	wantImages(t, "op", true, with, impl.MoInt, impl.MoCopy, impl.MoIf-1, impl.MoIf)
}

// TestRegistersOfEachOp: each by itself, whether the op uses it or not.
func TestRegistersOfEachOp(t *testing.T) {
	for op := range opBounds {
		for which := range 3 {
			with := func(n int) impl.Image {
				registers := [3]int{which, which, which}
				registers[which] = n
				return fourCodes(impl.Ins{Op: op, A: registers[0], B: registers[1], C: registers[2], N: anyN(op)})
			}
			what := fmt.Sprint("op ", op, ", register ", "ABC"[which:which+1])
			wantImages(t, what, true, with, 0, 1, 5, 6, 12, impl.AllRegs-1)
			wantImages(t, what, false, with, -1, -2, impl.AllRegs, impl.AllRegs+1, 255, 256, math.MinInt, math.MaxInt)
			wantImages(t, what, false, with, oddInts(1)...)
		}
	}
}

// TestSlotsOfFrames: loads and stores reach all of the frame behind its head, the Params with it.
func TestSlotsOfFrames(t *testing.T) {
	for _, op := range []int{impl.MoLoad, impl.MoStore} {
		for _, frame := range []int{impl.Head, impl.Head + 1, 5, 256, 257, impl.MaxFrame} {
			with := func(n int) impl.Image { return withCode(codeOf(frame, 0, mo(op, n), mo(impl.MoReturn, 0))) }
			what := fmt.Sprint("op ", op, ", Frame ", frame, ", word")
			wantImages(t, what, frame > impl.Head, with, impl.Head, frame-1)
			wantImages(t, what, false, with, -1, 0, impl.Head-1, frame, frame+1, impl.MaxFrame)
		}
		params := func(n int) impl.Image { return withCode(codeOf(impl.Head+4, 4, mo(op, n))) }
		wantImages(t, fmt.Sprint("op ", op, ", a parameter"), true, params, 3, 4, 5, 6)
		wantImages(t, fmt.Sprint("op ", op, ", a parameter"), false, params, 2, 7)
	}
}

// TestNewOfStructs: of those that there are.
func TestNewOfStructs(t *testing.T) {
	for count := range impl.MaxStructs + 1 {
		with := func(n int) impl.Image {
			m := imageOf(codeOf(3, 0, mo(impl.MoNew, n)))
			m.Structs = make([][]bool, count)
			return m
		}
		wantImages(t, fmt.Sprint(count, " structs, new"), true, with, upTo(count)...)
		wantImages(t, fmt.Sprint(count, " structs, new"), false, with, -1, count, count+1, impl.MaxStructs)
	}
}

// TestFieldsByNumber: up to MaxFields, whatever fields there are.
func TestFieldsByNumber(t *testing.T) {
	for _, op := range []int{impl.MoGetF, impl.MoPutF} {
		for count := range impl.MaxStructs {
			with := func(n int) impl.Image {
				m := imageOf(codeOf(3, 0, mo(op, n)))
				m.Structs = make([][]bool, count)
				return m
			}
			wantImages(t, "field", true, with, 0, 1, 2, 3, impl.MaxFields-1)
			wantImages(t, "field", false, with, -1, impl.MaxFields, impl.MaxFields+1)
		}
	}
}

// TestCallsOfCodes: each one may call each, itself with it; how many Params these have plays no part.
func TestCallsOfCodes(t *testing.T) {
	for count := 1; count <= impl.MaxFuncs; count++ {
		for _, at := range []int{0, count / 2, count - 1} {
			with := func(n int) impl.Image {
				m := impl.Image{Main: count - 1}
				for c := range count {
					m.Codes = append(m.Codes, codeOf(20, (count-1-c)%5, mo(impl.MoReturn, 1)))
				}
				m.Codes[at] = codeOf(20, m.Codes[at].Params, mo(impl.MoCall, n))
				return m
			}
			wantImages(t, fmt.Sprint(count, " codes, call"), true, with, upTo(count)...)
			wantImages(t, fmt.Sprint(count, " codes, call"), false, with, -1, count, count+1, impl.MaxFuncs)
		}
	}
}

// TestJumpsOfCode: to each instruction, itself with it; to none behind the last one, though other codes have more.
func TestJumpsOfCode(t *testing.T) {
	for _, op := range []int{impl.MoJump, impl.MoIf} {
		for _, count := range []int{1, 2, 5, 300} {
			with := func(n int) impl.Image {
				c := plainCode(count)
				c.Ins[count-1] = mo(op, n)
				return impl.Image{Codes: []impl.Code{plainCode(400), c, plainCode(1)}}
			}
			wantImages(t, fmt.Sprint(count, " instructions, jump"), true, with, 0, count/2, count-1)
			wantImages(t, fmt.Sprint(count, " instructions, jump"), false, with, -1, count, count+1, 399, impl.MaxCode-1, impl.MaxCode)
		}
		last := plainCode(impl.MaxCode)
		last.Ins[0] = mo(op, impl.MaxCode-1)
		wantImage(t, "a jump to the last one that may be", imageOf(last), true)
		last.Ins[0] = mo(op, impl.MaxCode)
		wantImage(t, "a jump behind it", imageOf(last), false)
	}
}

// TestPlaceOfFault: at each instruction of each code.
func TestPlaceOfFault(t *testing.T) {
	faults := []impl.Ins{mo(-1, 0), mo(impl.MoIf+1, 0), mo(impl.MoCopy, 1), {A: -1}, {B: impl.AllRegs}, {C: -1}, mo(impl.MoLoad, 2)}
	m := everyOp()
	m.Codes = append(m.Codes, plainCode(3))
	for n, c := range m.Codes {
		for pc := range c.Ins {
			for _, fault := range faults {
				bad := roomy(m)
				bad.Codes[n].Ins[pc] = fault
				if impl.ImageOk(bad) || !impl.ImageOk(m) {
					t.Fatalf("%+v at %d of %d is taken", fault, pc, n)
				}
			}
		}
	}
}

// TestNoOrderOfInstructions: what stands behind which plays no part, nor how a code ends.
func TestNoOrderOfInstructions(t *testing.T) {
	for op := range opBounds {
		for _, other := range []int{impl.MoInt, impl.MoCopy, impl.MoReturn, impl.MoPanic, impl.MoJump, op} {
			list := []impl.Ins{mo(other, 0), mo(op, 0), mo(other, 0)}
			for i := range list {
				list[i].N = slices.Max([]int{0, opBounds[list[i].Op][0]})
			}
			m := imageOf(codeOf(4, 0, list...))
			m.Structs = [][]bool{{}}
			wantImage(t, fmt.Sprint(other, " ", op), m, true)
		}
	}
}
