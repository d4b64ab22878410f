package tests

import (
	"encoding/binary"
	"fmt"
	"slices"

	"loop.example/g00306/impl"
)

// nWords say what the N of each op names; there is none where nothing is said.
var nWords = map[int]string{
	impl.MoInt: "any", impl.MoLoad: "slot", impl.MoStore: "slot", impl.MoArith: "bi", impl.MoDec: "fa",
	impl.MoNew: "struct", impl.MoMake: "list", impl.MoGetF: "field", impl.MoPutF: "field", impl.MoPrint: "flag",
	impl.MoReturn: "flag", impl.MoPass: "param", impl.MoCall: "code", impl.MoJump: "pc", impl.MoIf: "pc",
}

// mayName are all that an N may be that names something.
func mayName(m impl.Image, c impl.Code, word string) []int {
	switch word {
	case "slot":
		return slotsOf(c)
	case "bi":
		return []int{impl.BiAdd, impl.BiSub, impl.BiMul, impl.BiDiv, impl.BiRem, impl.BiLess, impl.BiSame}
	case "fa":
		return []int{impl.FaAdd, impl.FaSub, impl.FaMul, impl.FaDiv, impl.FaLess, impl.FaSame}
	case "struct":
		return upTo(len(m.Structs))
	case "list":
		return []int{0, 1, 2}
	case "field":
		return []int{0, 1, 2, 3, 4}
	case "flag":
		return []int{0, 1}
	case "param":
		return []int{0, 1, 2, 3}
	case "code":
		return upTo(len(m.Codes))
	case "pc":
		return upTo(len(c.Ins))
	}
	return []int{0}
}

// slotsOf are all words of a code's frame behind its head.
func slotsOf(c impl.Code) []int {
	if c.Frame < 3 || c.Frame > 1000 {
		return nil
	}
	return upTo(c.Frame)[3:]
}

// imageFault says what keeps an image from being well; nothing if it is.
func imageFault(m impl.Image) string {
	if len(m.Structs) > 6 {
		return "structs"
	}
	for n, fields := range m.Structs {
		if len(fields) > 5 {
			return fmt.Sprint("fields of ", n)
		}
	}
	if len(m.Codes) > 8 {
		return "codes"
	}
	if !slices.Contains(upTo(len(m.Codes)), m.Main) || m.Codes[m.Main].Params != 0 {
		return "main"
	}
	for n, c := range m.Codes {
		if fault := codeFault(m, c); fault != "" {
			return fmt.Sprint("code ", n, ": ", fault)
		}
	}
	if len(secondBytes(m)) > 200000 {
		return "size"
	}
	return ""
}

func codeFault(m impl.Image, c impl.Code) string {
	if !slices.Contains(upTo(5), c.Params) {
		return "params"
	}
	if c.Frame > 1000 || c.Frame-c.Params < 3 || c.Frame < 0 {
		return "frame"
	}
	if len(c.Ins) == 0 || len(c.Ins) > 6000 {
		return "count"
	}
	names := map[string][]int{}
	for pc, i := range c.Ins {
		for _, r := range []int{i.A, i.B, i.C} {
			if r < 0 || r > 15 {
				return fmt.Sprint("register at ", pc)
			}
		}
		if i.Op < 0 || i.Op > 27 {
			return fmt.Sprint("op at ", pc)
		}
		word := nWords[i.Op]
		if _, ok := names[word]; !ok {
			names[word] = mayName(m, c, word)
		}
		if word != "any" && !slices.Contains(names[word], i.N) {
			return fmt.Sprint("number at ", pc)
		}
	}
	return mapsFault(c)
}

// mapsFault holds the places of all maps against those of the instructions that have one, each at once.
func mapsFault(c impl.Code) string {
	var want, have []int
	for pc, i := range c.Ins {
		if slices.Contains([]string{"struct", "list", "code"}, nWords[i.Op]) {
			want = append(want, pc)
		}
	}
	for n, at := range c.Maps {
		have = append(have, at.Pc)
		sorted := slices.Compact(slices.Sorted(slices.Values(at.Slots)))
		if !slices.Equal(sorted, at.Slots) {
			return fmt.Sprint("order of map ", n)
		}
		if len(sorted) > 0 && (sorted[0] < 3 || sorted[len(sorted)-1] >= c.Frame) {
			return fmt.Sprint("slots of map ", n)
		}
	}
	if !slices.Equal(want, have) {
		return "places of maps"
	}
	return ""
}

// secondBytes are the bytes of any image, well or not; what has no room in its bytes loses its upper bits.
func secondBytes(m impl.Image) []byte {
	b := []byte{0x47, 0x49}
	pairs := func(numbers ...int) {
		for _, n := range numbers {
			b = binary.LittleEndian.AppendUint16(b, uint16(n))
		}
	}
	pairs(len(m.Structs), len(m.Codes), m.Main)
	for _, fields := range m.Structs {
		pairs(len(fields))
		for _, is := range fields {
			if is {
				b = append(b, 1)
			} else {
				b = append(b, 0)
			}
		}
	}
	for _, c := range m.Codes {
		pairs(c.Frame, c.Params, len(c.Ins), len(c.Maps))
		for _, i := range c.Ins {
			b = append(b, byte(i.Op), byte(i.A), byte(i.B), byte(i.C))
			b = binary.LittleEndian.AppendUint64(b, uint64(i.N))
		}
		for _, at := range c.Maps {
			pairs(at.Pc, len(at.Slots))
			pairs(at.Slots...)
		}
	}
	return b
}

// secondReader goes through bytes by a place; fault says what was wrong first.
type secondReader struct {
	b     []byte
	at    int
	fault string
}

// has tells whether so many bytes are left; if not, that is the fault.
func (r *secondReader) has(count int) bool {
	if r.fault == "" && len(r.b)-r.at < count {
		r.fault = fmt.Sprint("bytes lack at ", r.at)
	}
	return r.fault == ""
}

func (r *secondReader) one() int {
	if !r.has(1) {
		return 0
	}
	r.at++
	return int(r.b[r.at-1])
}

func (r *secondReader) two() int {
	if !r.has(2) {
		return 0
	}
	r.at += 2
	return int(binary.LittleEndian.Uint16(r.b[r.at-2:]))
}

func (r *secondReader) eight() int {
	if !r.has(8) {
		return 0
	}
	r.at += 8
	return int(binary.LittleEndian.Uint64(r.b[r.at-8:]))
}

// secondRead tells the image of bytes, or what is wrong with them.
func secondRead(b []byte) (impl.Image, string) {
	r := &secondReader{b: b}
	if r.one() != 'G' || r.one() != 'I' {
		return impl.Image{}, "mark"
	}
	m := impl.Image{Structs: make([][]bool, r.two()), Codes: make([]impl.Code, r.two()), Main: r.two()}
	for n := 0; n < len(m.Structs) && r.fault == ""; n++ {
		for left := r.two(); left > 0 && r.fault == ""; left-- {
			flag := r.one()
			if flag > 1 {
				r.fault = fmt.Sprint("flag of ", n)
			}
			m.Structs[n] = append(m.Structs[n], flag == 1)
		}
	}
	for n := 0; n < len(m.Codes) && r.fault == ""; n++ {
		m.Codes[n] = secondCode(r)
	}
	if r.fault == "" && r.at < len(b) {
		r.fault = "bytes are left"
	}
	if r.fault == "" {
		r.fault = imageFault(m)
	}
	if r.fault != "" {
		return impl.Image{}, r.fault
	}
	return m, ""
}

func secondCode(r *secondReader) impl.Code {
	c := impl.Code{Frame: r.two(), Params: r.two()}
	ins, maps := r.two(), r.two()
	for ; ins > 0 && r.fault == ""; ins-- {
		c.Ins = append(c.Ins, impl.Ins{Op: r.one(), A: r.one(), B: r.one(), C: r.one(), N: r.eight()})
	}
	for ; maps > 0 && r.fault == ""; maps-- {
		at := impl.Map{Pc: r.two()}
		for slots := r.two(); slots > 0 && r.fault == ""; slots-- {
			at.Slots = append(at.Slots, r.two())
		}
		c.Maps = append(c.Maps, at)
	}
	return c
}
