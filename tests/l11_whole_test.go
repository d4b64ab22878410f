package tests

import (
	"fmt"
	"math"
	"slices"
	"testing"

	"loop.example/g00306/impl"
)

func TestImageNumbers(t *testing.T) {
	got := []int{impl.MaxCode, impl.MaxFrame, impl.MaxImage, impl.AllRegs, impl.Head}
	if want := []int{6000, 1000, 200000, 16, 3}; !slices.Equal(got, want) {
		t.Errorf("%v, want %v", got, want)
	}
	ops := []int{
		impl.MoInt, impl.MoCopy, impl.MoLoad, impl.MoStore, impl.MoArith, impl.MoDec, impl.MoSame, impl.MoToInt, impl.MoToFloat,
		impl.MoLen, impl.MoNew, impl.MoMake, impl.MoNil, impl.MoIndex, impl.MoZero, impl.MoSize, impl.MoGetF, impl.MoPutF,
		impl.MoGetE, impl.MoPutE, impl.MoRead, impl.MoPrint, impl.MoPass, impl.MoCall, impl.MoReturn, impl.MoPanic, impl.MoJump, impl.MoIf,
	}
	if !slices.Equal(ops, upTo(28)) {
		t.Errorf("the ops are %v", ops)
	}
}

func TestImagesByHand(t *testing.T) {
	for what, m := range handImages() {
		wantImage(t, what, m, true)
	}
}

func TestZeroImage(t *testing.T) {
	wantImage(t, "the zero image", impl.Image{}, false)
	wantImage(t, "empty lists", impl.Image{Structs: [][]bool{}, Codes: []impl.Code{}}, false)
	wantImage(t, "structs alone", impl.Image{Structs: [][]bool{{true}}}, false)
	wantImage(t, "the zero code", imageOf(impl.Code{}), false)
}

// TestStructsOfImage: none, up to as many as there may be, and more.
func TestStructsOfImage(t *testing.T) {
	for count := range impl.MaxStructs + 3 {
		m := imageOf(plainCode(1))
		for n := range count {
			m.Structs = append(m.Structs, slices.Repeat([]bool{n%2 == 0}, n%3))
		}
		wantImage(t, fmt.Sprint(count, " structs"), m, count <= impl.MaxStructs)
	}
	many := imageOf(plainCode(1))
	many.Structs = make([][]bool, 1<<16)
	wantImage(t, "as many structs as there are numbers of two bytes, and one", many, false)
	many.Structs = make([][]bool, 1<<16+1)
	wantImage(t, "one struct, with the upper bits lost", many, false)
}

// TestFieldsOfImage: of the only struct, of the first one and of the last one.
func TestFieldsOfImage(t *testing.T) {
	for count := range impl.MaxFields + 3 {
		for flags := range 1 << count {
			var fields []bool
			for n := range count {
				fields = append(fields, flags>>n&1 == 1)
			}
			m := imageOf(plainCode(1))
			m.Structs = [][]bool{fields}
			wantImage(t, fmt.Sprint(fields), m, count <= impl.MaxFields)
		}
		for _, at := range []int{0, 2, impl.MaxStructs - 1} {
			m := imageOf(plainCode(1))
			m.Structs = slices.Repeat([][]bool{{true, false}}, impl.MaxStructs)
			m.Structs[at] = make([]bool, count)
			wantImage(t, fmt.Sprint(count, " fields of ", at), m, count <= impl.MaxFields)
		}
	}
	for _, count := range []int{256, 257, 1 << 16, 1<<16 + 1} {
		m := imageOf(plainCode(1))
		m.Structs = [][]bool{make([]bool, count)}
		wantImage(t, fmt.Sprint(count, " fields"), m, false)
	}
}

// TestCodesOfImage: none, up to as many as there may be, and more; the first or the last one is Main.
func TestCodesOfImage(t *testing.T) {
	for count := range impl.MaxFuncs + 3 {
		var m impl.Image
		for n := range count {
			m.Codes = append(m.Codes, plainCode(n+1))
		}
		want := count > 0 && count <= impl.MaxFuncs
		wantImage(t, fmt.Sprint(count, " codes"), m, want)
		m.Main = count - 1
		wantImage(t, fmt.Sprint(count, " codes, the last one is Main"), m, want)
	}
	var m impl.Image
	m.Codes = slices.Repeat([]impl.Code{plainCode(1)}, 1<<16+1)
	wantImage(t, "one code, with the upper bits lost", m, false)
}

func TestMainOfImage(t *testing.T) {
	for count := range impl.MaxFuncs + 1 {
		with := func(at int) impl.Image {
			return impl.Image{Codes: slices.Repeat([]impl.Code{plainCode(1)}, count), Main: at}
		}
		wantImages(t, "Main", true, with, upTo(count)...)
		wantImages(t, "Main", false, with, -1, -2, -count, count, count+1, impl.MaxFuncs, math.MinInt, math.MaxInt)
		if count > 0 {
			wantImages(t, "Main", false, with, oddInts(count-1)...)
		}
	}
}

// TestParamsOfMain: none; of other codes some.
func TestParamsOfMain(t *testing.T) {
	for at := range 3 {
		for params := range impl.MaxParams + 1 {
			for of := range 3 {
				m := impl.Image{Codes: slices.Repeat([]impl.Code{plainCode(1)}, 3), Main: at}
				m.Codes[of] = codeOf(20, params, mo(impl.MoReturn, 0))
				wantImage(t, fmt.Sprint("Main is ", at, ", ", of, " has ", params), m, params == 0 || of != at)
			}
		}
	}
	one := impl.Image{Codes: []impl.Code{codeOf(20, 1, mo(impl.MoReturn, 0))}}
	wantImage(t, "the only code has a parameter", one, false)
}
