package tests

import (
	"bytes"
	"fmt"
	"math"
	"slices"
	"testing"

	"loop.example/g00306/impl"
)

// Parts of images, written short.

// mo is an instruction without registers.
func mo(op int, n int) impl.Ins { return impl.Ins{Op: op, N: n} }

// codeOf is a code with a map, of no slots, for each instruction that has one.
func codeOf(frame int, params int, list ...impl.Ins) impl.Code {
	c := impl.Code{Frame: frame, Params: params, Ins: list}
	for pc, i := range list {
		if i.Op == impl.MoNew || i.Op == impl.MoMake || i.Op == impl.MoCall {
			c.Maps = append(c.Maps, impl.Map{Pc: pc})
		}
	}
	return c
}

// plainCode is the least code that may be, with so many instructions.
func plainCode(count int) impl.Code {
	return codeOf(impl.Head, 0, slices.Repeat([]impl.Ins{mo(impl.MoReturn, 0)}, count)...)
}

// imageOf is an image of codes, the first of which is Main.
func imageOf(codes ...impl.Code) impl.Image {
	return impl.Image{Codes: codes}
}

// fourCodes has 3 structs and 4 codes, each of which has its own size; the last one is Main. Its second code has a Frame
// of 9, 2 Params, and 6 instructions, all of them the one that is given.
func fourCodes(i impl.Ins) impl.Image {
	return impl.Image{
		Structs: [][]bool{{true, false}, {}, {false, false, true, true, false}},
		Codes: []impl.Code{
			codeOf(4, 1, mo(impl.MoLoad, 3), mo(impl.MoReturn, 1)),
			codeOf(9, 2, slices.Repeat([]impl.Ins{i}, 6)...),
			codeOf(1000, 4, mo(impl.MoJump, 0)),
			codeOf(3, 0, mo(impl.MoCall, 1), mo(impl.MoNew, 2), mo(impl.MoReturn, 0)),
		},
		Main: 3,
	}
}

// everyOp is an image with each op, and registers and numbers of all sorts.
func everyOp() impl.Image {
	numbers := map[int]int{
		impl.MoInt: -5, impl.MoLoad: 3, impl.MoStore: 299, impl.MoArith: impl.BiRem, impl.MoDec: impl.FaLess, impl.MoNew: 1,
		impl.MoMake: 2, impl.MoGetF: 4, impl.MoPutF: 3, impl.MoPrint: 1, impl.MoPass: 3, impl.MoCall: 1, impl.MoReturn: 1,
		impl.MoJump: 27, impl.MoIf: 5,
	}
	var list []impl.Ins
	for op := impl.MoInt; op <= impl.MoIf; op++ {
		list = append(list, impl.Ins{Op: op, A: op % 16, B: (op + 5) % 16, C: (op*7 + 3) % 16, N: numbers[op]})
	}
	c := codeOf(300, 0, list...)
	c.Maps[0].Slots = []int{3, 255, 256, 299}
	c.Maps[2].Slots = []int{7}
	return impl.Image{Structs: [][]bool{{}, {true, false, true}}, Codes: []impl.Code{plainCode(1), c}, Main: 1}
}

// handImages are images of several shapes, all of them well.
func handImages() map[string]impl.Image {
	twoMaps := codeOf(6, 3, mo(impl.MoMake, 1), mo(impl.MoIf, 2), mo(impl.MoCall, 0))
	twoMaps.Maps[1].Slots = []int{3, 4, 5}
	return map[string]impl.Image{
		"the least":     imageOf(plainCode(1)),
		"each op":       everyOp(),
		"four codes":    fourCodes(mo(impl.MoInt, math.MinInt)),
		"two maps":      imageOf(plainCode(2), twoMaps),
		"structs alone": {Structs: [][]bool{{}, {true}, {false}, {true, true, true, true, true}}, Codes: []impl.Code{plainCode(1)}},
	}
}

// oddInts are numbers that are hardly ever in bounds, but are where upper bits are lost.
func oddInts(n int) []int {
	return []int{math.MinInt, math.MinInt + n, math.MaxInt, -1 << 32, n + 1<<8, n + 1<<16, n + 1<<32, n - 1<<16, n - 1<<8, n + 1<<40}
}

// sameImage holds all fields against each other; no list and an empty one are the same.
func sameImage(a impl.Image, b impl.Image) bool {
	return a.Main == b.Main && slices.EqualFunc(a.Structs, b.Structs, slices.Equal) && slices.EqualFunc(a.Codes, b.Codes, sameCode)
}

func sameCode(a impl.Code, b impl.Code) bool {
	return a.Frame == b.Frame && a.Params == b.Params && slices.Equal(a.Ins, b.Ins) && slices.EqualFunc(a.Maps, b.Maps, func(a impl.Map, b impl.Map) bool {
		return a.Pc == b.Pc && slices.Equal(a.Slots, b.Slots)
	})
}

// showImage writes an image, or how great it is.
func showImage(m impl.Image) string {
	if size := len(secondBytes(m)); size > 2000 {
		return fmt.Sprint("an image of ", size, " bytes")
	}
	return fmt.Sprintf("%+v", m)
}

// imageOk asks ImageOk twice, and fails if that writes into the image, or tells other than the second way does.
func imageOk(t *testing.T, m impl.Image) bool {
	t.Helper()
	full := roomy(m)
	was := deepText(full)
	ok := impl.ImageOk(full)
	if impl.ImageOk(full) != ok {
		t.Errorf("the first time %v, the second time not, of %s", ok, showImage(m))
	}
	if deepText(full) != was {
		t.Errorf("something was written into %s", showImage(m))
	}
	if fault := imageFault(m); ok != (fault == "") {
		t.Errorf("%v, the second way: %q, of %s", ok, fault, showImage(m))
	}
	return ok
}

// imageBytes asks ImageBytes twice, and fails if that writes into the image, hands out memory that is shared, or tells
// other than the second way does.
func imageBytes(t *testing.T, m impl.Image) ([]byte, bool) {
	t.Helper()
	full := roomy(m)
	was := deepText(full)
	b, ok := impl.ImageBytes(full)
	again, same := impl.ImageBytes(full)
	if ok != same || !bytes.Equal(b, again) {
		t.Errorf("the first time, %v: %x\nthe second time, %v: %x", ok, b, same, again)
	}
	if deepText(full) != was {
		t.Errorf("something was written into %s", showImage(m))
	}
	wantFresh(t, b, full)
	wantFresh(t, b, again)
	fault := imageFault(m)
	if ok != (fault == "") || !ok && len(b) > 0 || ok && !bytes.Equal(b, secondBytes(m)) {
		t.Errorf("%v: %x\nthe second way: %q\nof %s", ok, b, fault, showImage(m))
	}
	return b, ok
}

// imageRead asks ImageRead twice, and fails if that writes into the bytes, hands out memory that is shared, or tells
// other than the second way does.
func imageRead(t *testing.T, b []byte) (impl.Image, bool) {
	t.Helper()
	full := roomy(b)
	was := deepText(full)
	m, ok := impl.ImageRead(full)
	again, same := impl.ImageRead(full)
	if ok != same || !sameImage(m, again) {
		t.Errorf("the first time, %v: %s\nthe second time, %v: %s", ok, showImage(m), same, showImage(again))
	}
	if deepText(full) != was {
		t.Errorf("something was written into %x", b)
	}
	wantFresh(t, m, full)
	wantFresh(t, m, again)
	wantReadSecond(t, b, m, ok)
	return m, ok
}

// wantReadSecond fails unless what was read of bytes is what the second way reads, and has just these bytes.
func wantReadSecond(t *testing.T, b []byte, m impl.Image, ok bool) {
	t.Helper()
	second, fault := secondRead(b)
	if ok != (fault == "") || !sameImage(m, second) {
		t.Fatalf("%v: %s\nthe second way, %q: %s\nof %d bytes", ok, showImage(m), fault, showImage(second), len(b))
	}
	if own, well := impl.ImageBytes(m); ok && (!well || !bytes.Equal(own, b)) {
		t.Fatalf("%x\nis read, but its bytes are, %v:\n%x", b, well, own)
	}
}

// wantImage fails unless an image is well, and comes back from its bytes; or is not, and has none, and what would be its
// bytes is read only where another image has them.
func wantImage(t *testing.T, what string, m impl.Image, want bool) {
	t.Helper()
	if imageOk(t, m) != want {
		t.Fatalf("%s: want %v, of %s", what, want, showImage(m))
	}
	b, ok := imageBytes(t, m)
	if ok != want {
		t.Fatalf("%s: bytes %v, want %v, of %s", what, ok, want, showImage(m))
	}
	if !ok {
		b = secondBytes(m)
	}
	back, read := imageRead(t, b)
	if want && !read || read && sameImage(back, m) != want {
		t.Fatalf("%s: read, %v: %s\nof %s", what, read, showImage(back), showImage(m))
	}
}

// wantImages is wantImage of an image in which a number is each of these.
func wantImages(t *testing.T, what string, want bool, with func(n int) impl.Image, numbers ...int) {
	t.Helper()
	for _, n := range numbers {
		wantImage(t, fmt.Sprint(what, " ", n), with(n), want)
	}
}
