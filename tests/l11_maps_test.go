package tests

import (
	"fmt"
	"math"
	"slices"
	"testing"

	"loop.example/g00306/impl"
)

// mappedImage has a code with maps at 1, 2 and 4, a Frame of 9 and 2 Params, between two others; then it is edited.
func mappedImage(edit func(c *impl.Code)) impl.Image {
	c := codeOf(9, 2, mo(impl.MoRead, 0), mo(impl.MoNew, 0), mo(impl.MoMake, 2), mo(impl.MoReturn, 0), mo(impl.MoCall, 2), mo(impl.MoPanic, 0))
	edit(&c)
	return impl.Image{Structs: [][]bool{{true}}, Codes: []impl.Code{plainCode(1), c, plainCode(1)}}
}

// withPlaces is mappedImage with maps, of no slots, at these places.
func withPlaces(places ...int) impl.Image {
	return mappedImage(func(c *impl.Code) {
		c.Maps = nil
		for _, pc := range places {
			c.Maps = append(c.Maps, impl.Map{Pc: pc})
		}
	})
}

func TestPlacesOfMaps(t *testing.T) {
	wantImage(t, "just these", withPlaces(1, 2, 4), true)
	for _, places := range [][]int{
		nil, {1}, {2}, {4}, {1, 2}, {1, 4}, {2, 4}, // too few
		{1, 2, 4, 5}, {0, 1, 2, 4}, {1, 2, 3, 4}, {1, 2, 4, 6}, {1, 2, 4, -1}, {-1, 1, 2, 4}, {0, 1, 2, 3, 4, 5}, // too many
		{1, 1, 2, 4}, {1, 2, 2, 4}, {1, 2, 4, 4}, {1, 2, 2}, {1, 1, 4}, {4, 4, 4}, {1, 2, 4, 1, 2, 4}, // one twice
		{2, 1, 4}, {1, 4, 2}, {4, 2, 1}, {2, 4, 1}, // in the wrong order
		{0, 2, 4}, {1, 3, 4}, {1, 2, 5}, {1, 2, 3}, {1, 2, 6}, {-1, 2, 4}, {1, 2, math.MaxInt}, {math.MinInt, 2, 4}, {2, 3, 5}, {0, 1, 3}, // of others
		{1 + 1<<16, 2, 4}, {1, 2 - 1<<16, 4}, {1, 2, 4 + 1<<8}, // upper bits
	} {
		wantImage(t, fmt.Sprint("at ", places), withPlaces(places...), false)
	}
}

// TestMapsOfEachOp: those three have one, all others have none.
func TestMapsOfEachOp(t *testing.T) {
	for op := range opBounds {
		has := op == impl.MoNew || op == impl.MoMake || op == impl.MoCall
		for _, maps := range [][]impl.Map{nil, {{Pc: 1}}, {{Pc: 0}}, {{Pc: 1}, {Pc: 1}}, {{Pc: 1, Slots: []int{3, 8}}}} {
			m := mappedImage(func(c *impl.Code) {
				c.Ins = []impl.Ins{mo(impl.MoRead, 0), mo(op, opBounds[op][0]), mo(impl.MoReturn, 0)}
				c.Maps = maps
			})
			isOne := len(maps) == 1 && maps[0].Pc == 1
			wantImage(t, fmt.Sprint("op ", op, ", maps ", maps), m, has && isOne || !has && len(maps) == 0)
		}
	}
}

// TestMapsAtEnds: of the first and of the last instruction, and of the only one.
func TestMapsAtEnds(t *testing.T) {
	both := imageOf(codeOf(5, 0, mo(impl.MoMake, 0), mo(impl.MoReturn, 0), mo(impl.MoCall, 0)))
	wantImage(t, "at both ends", both, true)
	both.Codes[0].Maps[1].Pc = 3
	wantImage(t, "behind the last one", both, false)
	wantImage(t, "of the only one", imageOf(codeOf(5, 0, mo(impl.MoCall, 0))), true)
	wantImage(t, "none of the only one", imageOf(impl.Code{Frame: 5, Ins: []impl.Ins{mo(impl.MoCall, 0)}}), false)
	// Each code has its own: those of another do not count.
	two := imageOf(codeOf(5, 0, mo(impl.MoCall, 0)), plainCode(1))
	two.Codes[0].Maps, two.Codes[1].Maps = nil, two.Codes[0].Maps
	wantImage(t, "of the other code", two, false)
}

// withSlots is mappedImage with these slots at one of its maps.
func withSlots(at int, slots ...int) impl.Image {
	return mappedImage(func(c *impl.Code) { c.Maps[at].Slots = slots })
}

func TestSlotsOfMaps(t *testing.T) {
	for at := range 3 {
		for _, slots := range [][]int{nil, {}, {3}, {8}, {3, 8}, {4, 5, 7}, {3, 4, 5, 6, 7, 8}} {
			wantImage(t, fmt.Sprint("map ", at, ", slots ", slots), withSlots(at, slots...), true)
		}
		for _, slots := range [][]int{
			{2}, {9}, {0}, {-1}, {2, 3}, {8, 9}, {3, 9}, {2, 8}, {3, 4, 5, 6, 7, 8, 9}, {2, 3, 4, 5, 6, 7, 8}, {10}, {1000}, {999},
			{3, 3}, {8, 8}, {3, 4, 4}, {3, 3, 4}, {3, 3, 3}, {4, 3}, {8, 3}, {3, 5, 4}, {8, 7, 6}, {5, 3, 8}, {3, 8, 7}, {7, 8, 3},
			{math.MinInt}, {math.MaxInt}, {3, math.MaxInt}, {math.MinInt, 3}, {math.MaxInt, 3}, {3, math.MinInt}, {3 + 1<<16}, {3, 4 + 1<<16}, {4 - 1<<16},
		} {
			wantImage(t, fmt.Sprint("map ", at, ", slots ", slots), withSlots(at, slots...), false)
		}
	}
}

// TestSlotsOfEachFrame: all slots that there are, and one past each end.
func TestSlotsOfEachFrame(t *testing.T) {
	for _, frame := range []int{impl.Head, impl.Head + 1, impl.Head + 2, 255, 256, 257, impl.MaxFrame} {
		with := func(slots []int) impl.Image {
			c := codeOf(frame, 0, mo(impl.MoMake, 0))
			c.Maps[0].Slots = slots
			return imageOf(c)
		}
		all := upTo(frame)[impl.Head:]
		wantImage(t, fmt.Sprint("Frame ", frame, ", all"), with(all), true)
		wantImage(t, fmt.Sprint("Frame ", frame, ", one behind"), with(append(slices.Clone(all), frame)), false)
		wantImage(t, fmt.Sprint("Frame ", frame, ", one ahead"), with(append([]int{impl.Head - 1}, all...)), false)
		wantImage(t, fmt.Sprint("Frame ", frame, ", the last"), with([]int{frame - 1}), frame > impl.Head)
		wantImage(t, fmt.Sprint("Frame ", frame, ", behind it"), with([]int{frame}), false)
		wantImage(t, fmt.Sprint("Frame ", frame, ", the first"), with([]int{impl.Head}), frame > impl.Head)
		if len(all) > 1 {
			wantImage(t, fmt.Sprint("Frame ", frame, ", the last twice"), with(append(slices.Clone(all), frame-1)), false)
			slices.Reverse(all)
			wantImage(t, fmt.Sprint("Frame ", frame, ", descending"), with(all), false)
		}
	}
}

// TestManySlots: more than two bytes can say.
func TestManySlots(t *testing.T) {
	for _, count := range []int{997, 998, 1 << 16, 1<<16 + 1} {
		c := codeOf(impl.MaxFrame, 0, mo(impl.MoMake, 0))
		for n := range count {
			c.Maps[0].Slots = append(c.Maps[0].Slots, impl.Head+n)
		}
		wantImage(t, fmt.Sprint(count, " slots"), imageOf(c), count == 997)
	}
	c := plainCode(1)
	c.Maps = make([]impl.Map, 1<<16)
	wantImage(t, "as many maps as two bytes can't say", imageOf(c), false)
}
