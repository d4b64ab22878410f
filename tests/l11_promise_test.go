package tests

import (
	"bytes"
	"slices"
	"testing"

	"loop.example/g00306/impl"
)

// TestMadeImages: each comes back from its bytes, field by field, and no two have the same ones.
func TestMadeImages(t *testing.T) {
	t.Parallel()
	numbers := spread(90000)
	ops, seen := map[int]int{}, map[string]impl.Image{}
	maps, slots := 0, 0
	for round := range 500 {
		m := newImageMaker(numbers, round*179).image()
		b, ok := impl.ImageBytes(m)
		if !ok || !impl.ImageOk(m) || !bytes.Equal(b, secondBytes(m)) {
			t.Fatalf("%v, the second way: %q, of %s", ok, imageFault(m), showImage(m))
		}
		back, ok := impl.ImageRead(b)
		if !ok || !sameImage(back, m) {
			t.Fatalf("read, %v: %s\nof %s", ok, showImage(back), showImage(m))
		}
		if round%10 == 0 {
			wantImage(t, "made", m, true)
		}
		if other, ok := seen[string(b)]; ok && !sameImage(other, m) {
			t.Errorf("two images have the bytes %x", b)
		}
		seen[string(b)] = m
		for _, c := range m.Codes {
			for _, i := range c.Ins {
				ops[i.Op]++
			}
			for _, at := range c.Maps {
				maps++
				slots += len(at.Slots)
			}
		}
	}
	if len(ops) != impl.MoIf+1 || maps < 1000 || slots < 3000 || len(seen) < 400 {
		t.Errorf("ops %v, %d maps, %d slots, %d images", ops, maps, slots, len(seen))
	}
}

// TestMadeImagesTurned: whatever number or list is another, it is taken just where the second way takes it.
func TestMadeImagesTurned(t *testing.T) {
	t.Parallel()
	numbers := spread(90000)
	m := newMaker(numbers, 5)
	well, faults := 0, map[string]int{}
	for round := range 300 {
		image := newImageMaker(numbers, round*191+7).image()
		if round%4 == 0 {
			image = everyOp()
		}
		for range 8 {
			turned := turnOne(m, image)
			if round%5 == 0 {
				turned = turnOne(m, turned)
			}
			fault := imageFault(turned)
			wantTurned(t, turned, fault)
			if fault == "" {
				well++
			} else {
				faults[fault[:min(len(fault), 5)]]++
			}
		}
	}
	if well < 200 || len(faults) < 4 {
		t.Errorf("%d are well, %v are not", well, faults)
	}
}

func wantTurned(t *testing.T, m impl.Image, fault string) {
	t.Helper()
	b, ok := impl.ImageBytes(m)
	if impl.ImageOk(m) != (fault == "") || ok != (fault == "") {
		t.Fatalf("%v, %v, the second way: %q, of %s", impl.ImageOk(m), ok, fault, showImage(m))
	}
	if !ok {
		if len(b) > 0 {
			t.Fatalf("refused, but %x", b)
		}
		readOnly(t, secondBytes(m))
		return
	}
	if back, read := impl.ImageRead(b); !read || !sameImage(back, m) {
		t.Fatalf("read, %v: %s\nof %s", read, showImage(back), showImage(m))
	}
}

// TestMadeBytes: whatever is read has just these bytes; of bytes of made images that are changed at places, cut, or put
// together out of two.
func TestMadeBytes(t *testing.T) {
	t.Parallel()
	numbers := spread(90000)
	m := newMaker(numbers, 3)
	well, refused := 0, 0
	var last []byte
	for round := range 400 {
		b, _ := impl.ImageBytes(newImageMaker(numbers, round*211+1).image())
		for range 12 {
			changed := slices.Clone(b)
			switch m.pick(6) {
			case 0:
				changed = changed[:m.pick(len(changed)+1)]
			case 1:
				changed = append(changed[:m.pick(len(changed)+1)], last[m.pick(len(last)+1):]...)
			case 2:
				changed = append(changed, last[:m.pick(len(last)+1)]...)
			default:
				for range 1 + m.pick(2) {
					changed[m.pick(len(changed))] = byte([]int{0, 1, 2, 255, m.pick(28), m.pick(256)}[m.pick(6)])
				}
			}
			if readOnly(t, changed) {
				well++
			} else {
				refused++
			}
		}
		last = b
	}
	if well < 300 || refused < 1000 {
		t.Errorf("%d are read, %d are not", well, refused)
	}
}

// TestBytesOfAllSorts: numbers, one behind the other, that are bytes of an image if none of them is odd.
func TestBytesOfAllSorts(t *testing.T) {
	t.Parallel()
	m := newMaker(spread(90000), 9)
	well, refused := 0, 0
	for range 20000 {
		if readOnly(t, bytesAtOdds(m)) {
			well++
		} else {
			refused++
		}
	}
	if well < 2000 || refused < 2000 {
		t.Errorf("%d are read, %d are not", well, refused)
	}
}

// bytesAtOdds are those of an image with a struct and a code, of which now and then a number is another one.
func bytesAtOdds(m *maker) []byte {
	or := func(n int) int {
		if m.pick(30) > 0 {
			return n
		}
		return n + m.pick(5) - 2
	}
	b := []byte("GI")
	pairs := func(numbers ...int) {
		for _, n := range numbers {
			n = or(n)
			b = append(b, byte(n), byte(n>>8))
		}
	}
	fields, calls, others, slots := m.pick(3), m.pick(3), 1+m.pick(2), m.pick(3)
	pairs(1, 1, 0, fields)
	for range fields {
		b = append(b, byte(or(m.pick(2))))
	}
	pairs(3+slots, 0, calls+others, calls)
	for pc := range calls + others {
		op := impl.MoCall
		if pc >= calls {
			op = impl.MoReturn
		}
		b = append(b, byte(or(op)), byte(or(m.pick(16))), byte(or(m.pick(16))), byte(or(m.pick(16))), byte(or(0)), 0, 0, 0, 0, 0, 0, 0)
	}
	for pc := range calls {
		pairs(pc, slots)
		for slot := range slots {
			pairs(3 + slot)
		}
	}
	return b
}

// TestImagesShareNothing: bytes and images that are changed behind the call change nothing of the other.
func TestImagesShareNothing(t *testing.T) {
	for what, m := range handImages() {
		m = roomy(m)
		b, _ := impl.ImageBytes(m)
		kept := slices.Clone(b)
		was := showImage(m)
		for i := range b {
			b[i] = ^b[i]
		}
		if showImage(m) != was {
			t.Errorf("%s: the image reads %s", what, showImage(m))
		}
		copy(b, kept)
		back, _ := impl.ImageRead(b)
		clear(b)
		if showImage(back) != was {
			t.Errorf("%s: what was read reads %s", what, showImage(back))
		}
		again, _ := impl.ImageRead(kept)
		scrub(back)
		scrub(m)
		if showImage(again) != was || !bytes.Equal(kept, secondBytes(again)) {
			t.Errorf("%s: what was read twice reads %s", what, showImage(again))
		}
	}
}

// scrub changes all of an image, and writes behind all of its lists.
func scrub(m impl.Image) {
	for _, fields := range m.Structs {
		for n := range fields {
			fields[n] = !fields[n]
		}
		_ = append(fields, true, true)
	}
	for n, c := range m.Codes {
		for pc := range c.Ins {
			c.Ins[pc] = impl.Ins{Op: -1, A: -1, B: -1, C: -1, N: -1}
		}
		for _, at := range c.Maps {
			_ = append(at.Slots, -1, -1)
			clear(at.Slots)
		}
		_ = append(c.Ins, impl.Ins{Op: -2})
		_ = append(c.Maps, impl.Map{Pc: -2})
		clear(c.Maps)
		m.Codes[n] = impl.Code{Frame: -1}
	}
	_ = append(m.Structs, nil, nil)
	_ = append(m.Codes, impl.Code{})
}
