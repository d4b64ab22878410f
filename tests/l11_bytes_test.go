package tests

import (
	"bytes"
	"encoding/hex"
	"fmt"
	"math"
	"strings"
	"testing"

	"loop.example/g00306/impl"
)

// fromHex reads lines of bytes, two digits each; behind a # is what is said of them.
func fromHex(t *testing.T, lines ...string) []byte {
	t.Helper()
	var digits strings.Builder
	for _, line := range lines {
		line, _, _ = strings.Cut(line, "#")
		digits.WriteString(strings.ReplaceAll(line, " ", ""))
	}
	b, err := hex.DecodeString(digits.String())
	if err != nil {
		t.Fatal(err)
	}
	return b
}

// wantHex fails unless an image has these bytes, and they are read as it.
func wantHex(t *testing.T, m impl.Image, lines ...string) {
	t.Helper()
	want := fromHex(t, lines...)
	if b, ok := imageBytes(t, m); !ok || !bytes.Equal(b, want) {
		t.Errorf("%v:\n%x\nwant:\n%x\nof %s", ok, b, want, showImage(m))
	}
	if back, ok := imageRead(t, want); !ok || !sameImage(back, m) {
		t.Errorf("read, %v: %s\nwant: %s", ok, showImage(back), showImage(m))
	}
}

func TestBytesOfLeastImage(t *testing.T) {
	m := impl.Image{Codes: []impl.Code{{Frame: 3, Ins: []impl.Ins{{Op: impl.MoReturn}}}}}
	wantHex(t, m,
		"47 49  00 00  01 00  00 00",
		"03 00  00 00  01 00  00 00  18 00 00 00  00 00 00 00 00 00 00 00")
}

func TestBytesWrittenOut(t *testing.T) {
	m := impl.Image{
		Structs: [][]bool{{true, false, true}, {}, {false}},
		Codes: []impl.Code{
			{
				Frame: 1000, Params: 2,
				Ins: []impl.Ins{
					{Op: impl.MoInt, A: 1, B: 2, C: 3, N: -2},
					{Op: impl.MoNew, A: 15, N: 2},
					{Op: impl.MoLoad, A: 4, N: 999},
					{Op: impl.MoMake, A: 5, B: 6, N: 1},
					{Op: impl.MoIf, C: 9, N: 4},
				},
				Maps: []impl.Map{{Pc: 1, Slots: []int{3, 255, 256, 999}}, {Pc: 3}},
			},
			{
				Frame: 5,
				Ins:   []impl.Ins{{Op: impl.MoCall, N: 1}, {Op: impl.MoPanic, A: 14, B: 13, C: 12}},
				Maps:  []impl.Map{{Slots: []int{4}}},
			},
		},
		Main: 1,
	}
	wantHex(t, m,
		"47 49 # G, I",
		"03 00  02 00  01 00 # structs, codes, Main",
		"03 00  01 00 01 # a struct, its fields",
		"00 00",
		"01 00  00",
		"e8 03  02 00  05 00  02 00 # Frame, Params, instructions, maps",
		"00 01 02 03  fe ff ff ff ff ff ff ff # Op, A, B, C, N",
		"0a 0f 00 00  02 00 00 00 00 00 00 00",
		"02 04 00 00  e7 03 00 00 00 00 00 00",
		"0b 05 06 00  01 00 00 00 00 00 00 00",
		"1b 00 00 09  04 00 00 00 00 00 00 00",
		"01 00  04 00  03 00  ff 00  00 01  e7 03 # Pc, how many slots, these",
		"03 00  00 00",
		"05 00  00 00  02 00  01 00",
		"17 00 00 00  01 00 00 00 00 00 00 00",
		"19 0e 0d 0c  00 00 00 00 00 00 00 00",
		"00 00  01 00  04 00")
}

// TestBytesOfNumbers: N in eight bytes, low first.
func TestBytesOfNumbers(t *testing.T) {
	for n, want := range map[int]string{
		0:                  "00 00 00 00 00 00 00 00",
		1:                  "01 00 00 00 00 00 00 00",
		-1:                 "ff ff ff ff ff ff ff ff",
		255:                "ff 00 00 00 00 00 00 00",
		256:                "00 01 00 00 00 00 00 00",
		-256:               "00 ff ff ff ff ff ff ff",
		1 << 40:            "00 00 00 00 00 01 00 00",
		math.MinInt:        "00 00 00 00 00 00 00 80",
		math.MaxInt:        "ff ff ff ff ff ff ff 7f",
		0x0807060504030201: "01 02 03 04 05 06 07 08",
		noNumber:           "01 00 00 00 00 00 f8 7f",
	} {
		wantHex(t, imageOf(codeOf(3, 0, mo(impl.MoInt, n))), "47 49 00 00 01 00 00 00 03 00 00 00 01 00 00 00 00 00 00 00", want)
	}
}

// TestBytesOfPairs: numbers of two bytes that are more than 255, each where it can be.
func TestBytesOfPairs(t *testing.T) {
	c := plainCode(700)
	c.Frame = 517
	for pc := 301; pc < 301+300; pc++ {
		c.Ins[pc] = mo(impl.MoMake, 2)
		c.Maps = append(c.Maps, impl.Map{Pc: pc})
	}
	for slot := 4; slot < 4+259; slot++ {
		c.Maps[299].Slots = append(c.Maps[299].Slots, slot)
	}
	c.Ins[0] = mo(impl.MoJump, 699)
	b, ok := imageBytes(t, imageOf(c))
	if !ok || !bytes.Equal(b[8:16], fromHex(t, "05 02 00 00 bc 02 2c 01")) {
		t.Fatalf("%v: Frame, Params, counts %x", ok, b[:16])
	}
	if got := b[16:28]; !bytes.Equal(got, fromHex(t, "1a 00 00 00 bb 02 00 00 00 00 00 00")) {
		t.Errorf("the jump: %x", got)
	}
	maps := b[16+700*12:]
	if got := maps[:8]; !bytes.Equal(got, fromHex(t, "2d 01 00 00 2e 01 00 00")) {
		t.Errorf("the first two maps: %x", got)
	}
	last := maps[299*4:]
	if len(last) != 4+259*2 || !bytes.Equal(last[:8], fromHex(t, "58 02 03 01 04 00 05 00")) || !bytes.Equal(last[len(last)-4:], fromHex(t, "05 01 06 01")) {
		t.Errorf("the last map, %d bytes: %x", len(last), last)
	}
	wantImage(t, "pairs", imageOf(c), true)
}

// TestBytesOfEachOp: the op is its number, the registers stand in their order.
func TestBytesOfEachOp(t *testing.T) {
	m := everyOp()
	b, ok := imageBytes(t, m)
	if !ok {
		t.Fatal("refused")
	}
	// 8 bytes, the structs, the first code, the head of the second one.
	at := 8 + 2 + 2 + 3 + 8 + 12 + 8
	for op := range opBounds {
		i := m.Codes[1].Ins[op]
		if got, want := b[at:at+5], []byte{byte(op), byte(i.A), byte(i.B), byte(i.C), byte(i.N)}; !bytes.Equal(got, want) {
			t.Errorf("op %d: %x, want %x", op, got, want)
		}
		at += 12
	}
}

// TestBytesOfNone: nothing and false.
func TestBytesOfNone(t *testing.T) {
	for what, m := range faultyImages() {
		if b, ok := imageBytes(t, m); ok || len(b) > 0 {
			t.Errorf("%s: %v, %x", what, ok, b)
		}
		wantImage(t, what, m, false)
	}
}

// faultyImages are images each of which one thing keeps from being well.
func faultyImages() map[string]impl.Image {
	list := map[string]impl.Image{"the zero image": {}}
	for what, edit := range map[string]func(m *impl.Image){
		"a struct more":     func(m *impl.Image) { m.Structs = make([][]bool, impl.MaxStructs+1) },
		"a field more":      func(m *impl.Image) { m.Structs[1] = make([]bool, impl.MaxFields+1) },
		"a code more":       func(m *impl.Image) { m.Codes = append(m.Codes, make([]impl.Code, impl.MaxFuncs)...) },
		"Main is none":      func(m *impl.Image) { m.Main = 2 },
		"Main has Params":   func(m *impl.Image) { m.Codes[1].Params = 1 },
		"too many Params":   func(m *impl.Image) { m.Codes[0].Frame, m.Codes[0].Params = 20, impl.MaxParams+1 },
		"too small a Frame": func(m *impl.Image) { m.Codes[0].Frame = impl.Head - 1 },
		"too large a Frame": func(m *impl.Image) { m.Codes[0].Frame = impl.MaxFrame + 1 },
		"no instruction":    func(m *impl.Image) { m.Codes[0].Ins = nil },
		"an op":             func(m *impl.Image) { m.Codes[0].Ins[0].Op = impl.MoIf + 1 },
		"a register":        func(m *impl.Image) { m.Codes[0].Ins[0].B = impl.AllRegs },
		"a number":          func(m *impl.Image) { m.Codes[0].Ins[0].N = 2 },
		"a map too few":     func(m *impl.Image) { m.Codes[1].Maps = m.Codes[1].Maps[1:] },
		"a map too many":    func(m *impl.Image) { m.Codes[0].Maps = make([]impl.Map, 1) },
		"a place":           func(m *impl.Image) { m.Codes[1].Maps[1].Pc++ },
		"a slot":            func(m *impl.Image) { m.Codes[1].Maps[0].Slots[3] = 300 },
		"slots that fall":   func(m *impl.Image) { m.Codes[1].Maps[0].Slots[3] = 254 },
	} {
		m := roomy(everyOp())
		edit(&m)
		list[what] = m
	}
	return list
}

// TestLengthOfBytes is what the document's sentence comes to, part by part.
func TestLengthOfBytes(t *testing.T) {
	want := func(m impl.Image, size int) {
		t.Helper()
		if b, ok := imageBytes(t, m); !ok || len(b) != size {
			t.Errorf("%v, %d bytes, want %d, of %s", ok, len(b), size, showImage(m))
		}
	}
	for count := range 4 {
		m := imageOf(plainCode(1))
		m.Structs = make([][]bool, count)
		want(m, 28+2*count)
		m.Structs = [][]bool{make([]bool, count)}
		want(m, 28+2+count)
		want(imageOf(plainCode(1+count)), 28+12*count)
		m = imageOf(plainCode(1))
		for range count {
			m.Codes = append(m.Codes, plainCode(1))
		}
		want(m, 28+20*count)
		c := codeOf(9, 0, mo(impl.MoMake, 0))
		c.Maps[0].Slots = upTo(9)[3 : 3+count]
		want(imageOf(c), 28+4+2*count)
	}
	if fmt.Sprint(secondRead(secondBytes(everyOp()))) != fmt.Sprint(everyOp(), "") {
		t.Error("the second way does not come back")
	}
}
