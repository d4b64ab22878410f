package tests

import (
	"fmt"
	"slices"
	"testing"

	"loop.example/g00306/impl"
)

// greatByIns is an image of so many bytes, about as many as there may be: nearly all of them are instructions, the rest is
// told by structs and their fields.
func greatByIns(size int) impl.Image {
	// 8 bytes ahead, 8 of each code, 12 of each instruction.
	m := imageOf(plainCode(6000), plainCode(6000), plainCode(4662))
	left := size - (8 + 3*8 + 16662*12)
	for left > 0 {
		fields := min(left-2, impl.MaxFields)
		if left-2-fields == 1 {
			// One byte is no struct.
			fields--
		}
		m.Structs = append(m.Structs, make([]bool, fields))
		left -= 2 + fields
	}
	return m
}

// greatBySlots is one whose bytes are nearly all slots, the rest told by the slots of the last map and a field.
func greatBySlots(size int) impl.Image {
	c := codeOf(impl.MaxFrame, 0, slices.Repeat([]impl.Ins{mo(impl.MoMake, 1)}, 100)...)
	all := upTo(impl.MaxFrame)[impl.Head:]
	for n := range 99 {
		c.Maps[n].Slots = all
	}
	// 8 bytes ahead, 8 of the code, 16 of each instruction with its map, 2 of the struct.
	left := size - (8 + 8 + 100*16 + 99*997*2 + 2)
	m := imageOf(c)
	m.Structs = [][]bool{make([]bool, left%2)}
	c.Maps[99].Slots = all[:left/2]
	return m
}

// greatByBoth is one of eight codes, with some of all.
func greatByBoth(size int) impl.Image {
	m := impl.Image{Main: 7}
	all := upTo(impl.MaxFrame)[impl.Head:]
	for range impl.MaxFuncs {
		c := codeOf(impl.MaxFrame, 0, append([]impl.Ins{mo(impl.MoCall, 0), mo(impl.MoMake, 2)}, plainCode(1700).Ins...)...)
		c.Maps[0].Slots, c.Maps[1].Slots = all, all[:50]
		m.Codes = append(m.Codes, c)
	}
	// 8 bytes ahead, 8 of each code, 12 of each instruction, and maps, 2 of the struct.
	left := size - (8 + 8*(8+1702*12+4+997*2+4) + 7*50*2 + 2)
	m.Structs = [][]bool{make([]bool, left%2)}
	for pc := 100; left > 997*2; pc++ {
		// An instruction that makes way for one with a map takes 4 bytes more.
		c := &m.Codes[3]
		c.Ins[pc] = mo(impl.MoMake, 0)
		c.Maps = append(c.Maps, impl.Map{Pc: pc, Slots: all[:900]})
		left -= 4 + 900*2
	}
	m.Codes[7].Maps[1].Slots = all[:left/2]
	return m
}

// TestSizeOfImage: just as many bytes as there may be, and one more, by all ways to come there.
func TestSizeOfImage(t *testing.T) {
	t.Parallel()
	for what, great := range map[string]func(int) impl.Image{"instructions": greatByIns, "slots": greatBySlots, "both": greatByBoth} {
		for _, size := range []int{impl.MaxImage - 2, impl.MaxImage - 1, impl.MaxImage, impl.MaxImage + 1, impl.MaxImage + 2, impl.MaxImage + 3} {
			m := great(size)
			if got := len(secondBytes(m)); got != size {
				t.Fatalf("%s: %d bytes, want %d", what, got, size)
			}
			wantImage(t, fmt.Sprint(what, ", ", size, " bytes"), m, size <= impl.MaxImage)
		}
	}
}

// TestSizeOfLargeImages: far more bytes than there may be, though all else is well.
func TestSizeOfLargeImages(t *testing.T) {
	t.Parallel()
	m := impl.Image{Codes: slices.Repeat([]impl.Code{plainCode(impl.MaxCode)}, impl.MaxFuncs)}
	for count := range impl.MaxFuncs + 1 {
		few := impl.Image{Codes: m.Codes[:count]}
		// Two codes of MaxCode instructions fit, three do not.
		if got := impl.ImageOk(few); got != (count == 1 || count == 2) {
			t.Errorf("%d great codes: %v", count, got)
		}
	}
	all := upTo(impl.MaxFrame)[impl.Head:]
	c := codeOf(impl.MaxFrame, 0, slices.Repeat([]impl.Ins{mo(impl.MoMake, 0)}, impl.MaxCode)...)
	for n := range c.Maps {
		c.Maps[n].Slots = all
	}
	m.Codes = slices.Repeat([]impl.Code{c}, impl.MaxFuncs)
	if b, ok := impl.ImageBytes(m); ok || len(b) > 0 || impl.ImageOk(m) {
		t.Errorf("the largest of all has %d bytes, %v", len(b), ok)
	}
}
