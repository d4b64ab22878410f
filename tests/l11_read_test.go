package tests

import (
	"bytes"
	"fmt"
	"slices"
	"testing"

	"loop.example/g00306/impl"
)

// wantUnread fails unless bytes are no image.
func wantUnread(t *testing.T, what string, b []byte) {
	t.Helper()
	if m, ok := imageRead(t, b); ok || !sameImage(m, impl.Image{}) {
		t.Errorf("%s: %v, %s", what, ok, showImage(m))
	}
}

// readOnly asks ImageRead alone, for bytes of which there are many; what it tells is the second way's, too.
func readOnly(t *testing.T, b []byte) bool {
	t.Helper()
	m, ok := impl.ImageRead(b)
	wantReadSecond(t, b, m, ok)
	return ok
}

func TestReadFewBytes(t *testing.T) {
	wantUnread(t, "nothing", nil)
	wantUnread(t, "nothing", []byte{})
	for n := range 256 {
		wantUnread(t, "one byte", []byte{byte(n)})
		wantUnread(t, "G and a byte", []byte{'G', byte(n)})
		wantUnread(t, "a byte and I", []byte{byte(n), 'I'})
	}
	for count := range 40 {
		wantUnread(t, "noughts", make([]byte, count))
		wantUnread(t, "G, I and noughts", append([]byte("GI"), make([]byte, count)...))
		wantUnread(t, "ones", bytes.Repeat([]byte{1}, count))
		wantUnread(t, "255s", append([]byte("GI"), bytes.Repeat([]byte{255}, count)...))
	}
}

// TestReadOtherMarks: all but G and I, with an image behind.
func TestReadOtherMarks(t *testing.T) {
	b := secondBytes(everyOp())
	for _, mark := range []string{"gi", "Gi", "gI", "IG", "GG", "II", "G\x00", "\x00I", "G ", " I", "GJ", "FI"} {
		copy(b, mark)
		wantUnread(t, mark, b)
	}
	copy(b, "GI")
	if m, ok := imageRead(t, b); !ok || !sameImage(m, everyOp()) {
		t.Error(ok, showImage(m))
	}
}

// TestReadOneByteChanged: at each place to each other number.
func TestReadOneByteChanged(t *testing.T) {
	t.Parallel()
	for what, m := range handImages() {
		b, _ := impl.ImageBytes(m)
		well, refused := 0, 0
		for at, was := range b {
			for n := range 256 {
				b[at] = byte(n)
				if readOnly(t, b) {
					well++
				} else {
					refused++
				}
			}
			b[at] = was
		}
		if well <= len(b) || refused < len(b) {
			t.Errorf("%s: %d are well, %d are refused", what, well, refused)
		}
	}
}

// TestReadTwoBytesChanged: at any two places.
func TestReadTwoBytesChanged(t *testing.T) {
	t.Parallel()
	m := newMaker(spread(50000), 17)
	for _, i := range handImages() {
		b, _ := impl.ImageBytes(i)
		for range 4000 {
			changed := slices.Clone(b)
			changed[m.pick(len(b))] = byte(m.pick(256))
			changed[m.pick(len(b))] ^= 1 << m.pick(8)
			readOnly(t, changed)
		}
	}
}

// TestReadCutOff: at each place; and without the bytes ahead of it.
func TestReadCutOff(t *testing.T) {
	for what, m := range handImages() {
		b, _ := impl.ImageBytes(m)
		for count := range b {
			wantUnread(t, fmt.Sprint(what, ", the first ", count), b[:count])
			wantUnread(t, fmt.Sprint(what, ", but the first ", count+1), b[count+1:])
		}
	}
}

// TestReadOneByteMore: behind the end, each one; and in between.
func TestReadOneByteMore(t *testing.T) {
	for what, m := range handImages() {
		b, _ := impl.ImageBytes(m)
		for n := range 256 {
			wantUnread(t, fmt.Sprint(what, ", behind it ", n), append(slices.Clone(b), byte(n)))
		}
		for at := range b {
			for _, n := range []byte{0, 1, 2, b[at], 255} {
				readOnly(t, slices.Insert(slices.Clone(b), at, n))
			}
			readOnly(t, slices.Delete(slices.Clone(b), at, at+1))
		}
		wantUnread(t, what+", twice", append(slices.Clone(b), b...))
		wantUnread(t, what+", and an instruction", append(slices.Clone(b), make([]byte, 12)...))
	}
}

// TestReadFlags: a field's byte is 0 or 1.
func TestReadFlags(t *testing.T) {
	m := imageOf(plainCode(1))
	m.Structs = [][]bool{{true, false}, {false, true, true}}
	b, _ := impl.ImageBytes(m)
	for _, at := range []int{10, 11, 14, 15, 16} {
		was := b[at]
		for n := range 256 {
			b[at] = byte(n)
			if n > 1 {
				wantUnread(t, fmt.Sprint("flag ", n), b)
			} else if back, ok := imageRead(t, b); !ok || slices.Equal(secondBytes(back), secondBytes(m)) != (byte(n) == was) {
				t.Errorf("flag %d: %v, %s", n, ok, showImage(back))
			}
		}
		b[at] = was
	}
}

// countPlaces are where counts stand in the bytes of everyOp, and how much they say.
var countPlaces = map[string]struct{ at, count int }{
	"structs": {2, 2}, "codes": {4, 2}, "fields of 0": {8, 0}, "fields of 1": {10, 3}, "instructions of 0": {19, 1}, "maps of 0": {21, 0},
	"instructions of 1": {39, 28}, "maps of 1": {41, 3}, "slots of the first": {43 + 28*12 + 2, 4}, "slots of the last": {43 + 28*12 + 4 + 8 + 4 + 2, 1},
}

// TestReadCounts: others than what lies behind them.
func TestReadCounts(t *testing.T) {
	b := secondBytes(everyOp())
	for what, place := range countPlaces {
		at, was := place.at, place.count
		if int(b[at]) != was || b[at+1] != 0 {
			t.Fatalf("%s: at %d is %x", what, at, b[at:at+2])
		}
		with := func(count int) []byte {
			changed := slices.Clone(b)
			changed[at], changed[at+1] = byte(count), byte(count>>8)
			return changed
		}
		for _, count := range []int{was + 1, was + 2, was + 3, was + 255, was + 256, 6, 7, 1000, 6000, 6001, 1<<15 - 1, 1 << 15, 1<<16 - 1} {
			wantUnread(t, fmt.Sprint(what, ": ", count), with(count))
			wantUnread(t, fmt.Sprint(what, ": ", count, ", nothing behind"), with(count)[:at+2])
			wantUnread(t, fmt.Sprint(what, ": ", count, ", and more behind"), append(with(count), make([]byte, 5000)...))
		}
		for count := range was {
			wantUnread(t, fmt.Sprint(what, ": ", count), with(count))
		}
	}
}

// TestReadCountsOfNoImage: what they count lies behind them, but no image has so many.
func TestReadCountsOfNoImage(t *testing.T) {
	t.Parallel()
	const most = 1<<16 - 1
	for _, count := range []int{impl.MaxCode + 1, 16000, 16664, most} {
		wantUnread(t, fmt.Sprint(count, " instructions"), secondBytes(imageOf(plainCode(count))))
	}
	for _, count := range []int{impl.MaxStructs + 1, 1000, most} {
		m := imageOf(plainCode(1))
		m.Structs = make([][]bool, count)
		wantUnread(t, fmt.Sprint(count, " structs"), secondBytes(m))
		m.Structs = [][]bool{make([]bool, count)}
		wantUnread(t, fmt.Sprint(count, " fields"), secondBytes(m))
	}
	for _, count := range []int{impl.MaxFuncs + 1, 1000, 9999, most} {
		m := impl.Image{Codes: slices.Repeat([]impl.Code{plainCode(1)}, count)}
		wantUnread(t, fmt.Sprint(count, " codes"), secondBytes(m))
	}
	for _, count := range []int{998, 1000, most} {
		c := codeOf(impl.MaxFrame, 0, mo(impl.MoMake, 0))
		c.Maps[0].Slots = make([]int, count)
		for n := range count {
			c.Maps[0].Slots[n] = impl.Head + n
		}
		wantUnread(t, fmt.Sprint(count, " slots"), secondBytes(imageOf(c)))
		c.Maps = make([]impl.Map, count)
		wantUnread(t, fmt.Sprint(count, " maps"), secondBytes(imageOf(c)))
	}
}

// TestReadLongBytes: as many as there may be, and more, of images and of none.
func TestReadLongBytes(t *testing.T) {
	t.Parallel()
	b := secondBytes(greatByIns(impl.MaxImage))
	if m, ok := imageRead(t, b); !ok || !sameImage(m, greatByIns(impl.MaxImage)) {
		t.Errorf("%d bytes: %v, %s", len(b), ok, showImage(m))
	}
	wantUnread(t, "one byte more", append(slices.Clone(b), 0))
	wantUnread(t, "one byte less", b[:len(b)-1])
	for _, size := range []int{impl.MaxImage + 1, impl.MaxImage + 2} {
		wantUnread(t, fmt.Sprint("an image of ", size), secondBytes(greatByIns(size)))
		wantUnread(t, fmt.Sprint("an image of ", size), secondBytes(greatBySlots(size)))
	}
	small := secondBytes(everyOp())
	for _, size := range []int{impl.MaxImage, impl.MaxImage + 1, 5 * impl.MaxImage} {
		wantUnread(t, "noughts", make([]byte, size))
		wantUnread(t, "255s", append([]byte("GI"), bytes.Repeat([]byte{255}, size-2)...))
		wantUnread(t, "an image and noughts", append(slices.Clone(small), make([]byte, size-len(small))...))
	}
}

// TestReadOfNoImage: bytes of images that one thing keeps from being well.
func TestReadOfNoImage(t *testing.T) {
	for what, m := range faultyImages() {
		wantUnread(t, what, secondBytes(m))
	}
}

// TestReadNoBytesBehind: what lies in the room behind the bytes plays no part.
func TestReadNoBytesBehind(t *testing.T) {
	b := secondBytes(everyOp())
	for count := range b {
		if m, ok := impl.ImageRead(b[:count]); ok || !sameImage(m, impl.Image{}) {
			t.Errorf("the first %d of %d: %v, %s", count, len(b), ok, showImage(m))
		}
	}
	long := append(slices.Clone(b), b...)
	if m, ok := impl.ImageRead(long[:len(b)]); !ok || !sameImage(m, everyOp()) {
		t.Errorf("with more behind: %v, %s", ok, showImage(m))
	}
}
