package tests

import (
	"math"
	"testing"

	"loop.example/g00306/impl"
)

// noNumber is written out here as the document names it, so a change of the program's own constant is found.
const noNumber = 9221120237041090561

const (
	plusNought  = 0
	minusNought = math.MinInt
	plusInf     = 0x7FF0000000000000
	minusInf    = -0x10000000000000
	greatest    = 0x7FEFFFFFFFFFFFFF
	least       = -0x10000000000001
	tiniest     = 1
	two53       = 1 << 53
)

// numberBits are bits of floats that are numbers: ordinary ones and the edges of each kind.
func numberBits() []int {
	list := []int{
		plusNought, minusNought, plusInf, minusInf, greatest, least,
		tiniest, math.MinInt + 1, // the least that are not nought, of both signs
		0x000FFFFFFFFFFFFF, 0x0010000000000000, // the ends of those without and with a leading one
		0x3FF0000000000000, 0x3FF0000000000001, 0x3FEFFFFFFFFFFFFF,
	}
	for _, f := range []float64{-1, 2, 0.5, -0.5, 0.1, 0.2, 0.3, 1e10, -1e10, 1e300, -1e300, 1e-300, math.Pi, two53, -two53, 1 << 63, -1 << 63} {
		list = append(list, int(math.Float64bits(f)))
	}
	return list
}

// noNumberBits are 64 bits that are those of no number: quiet or not, of both signs, with all sorts of rests.
func noNumberBits() []int {
	return []int{
		noNumber, 0x7FF0000000000001, 0x7FF8000000000000, 0x7FFFFFFFFFFFFFFF, 0x7FF0000000000000 + 12345,
		-1, minusInf + 1, minusInf + 0x8000000000000, minusInf + 0x8000000000001, minusInf + 987654321,
	}
}

// spread tells count ints all over the 64 bits, the same ones each time.
func spread(count int) []int {
	list := make([]int, 0, count)
	x := uint64(88172645463325252)
	for range count {
		x ^= x << 13
		x ^= x >> 7
		x ^= x << 17
		list = append(list, int(x))
	}
	return list
}

func isNoNumber(n int) bool {
	return uint64(n)&(1<<63-1) > plusInf
}

func TestBitsOfKnownFloats(t *testing.T) {
	nought := 0.0
	cases := []struct {
		f    float64
		want int
	}{
		{0, 0}, {math.Copysign(0, -1), minusNought}, {1, 0x3FF0000000000000}, {-2, -0x4000000000000000},
		{0.1, 0x3FB999999999999A}, {math.Inf(1), plusInf}, {math.Inf(-1), minusInf}, {math.NaN(), noNumber}, {nought / nought, noNumber},
		{math.MaxFloat64, greatest}, {-math.MaxFloat64, least}, {math.SmallestNonzeroFloat64, tiniest},
	}
	for _, c := range cases {
		if got := impl.Bits(c.f); got != c.want {
			t.Errorf("Bits(%v) = %d, want %d", c.f, got, c.want)
		}
	}
}

func TestBitsComeBack(t *testing.T) {
	for _, n := range append(numberBits(), spread(5000)...) {
		want := n
		if isNoNumber(n) {
			want = noNumber
		}
		if got := impl.Bits(impl.Float(n)); got != want {
			t.Errorf("Bits(Float(%d)) = %d, want %d", n, got, want)
		}
		if f := impl.Float(n); !isNoNumber(n) && math.Float64bits(f) != uint64(n) {
			t.Errorf("Float(%d) = %v, which has other bits", n, f)
		}
	}
}

func TestAllThatAreNoNumberAreOne(t *testing.T) {
	for _, n := range noNumberBits() {
		if f := impl.Float(n); f == f {
			t.Errorf("Float(%d) = %v, want no number", n, f)
		}
		if got := impl.Bits(impl.Float(n)); got != noNumber {
			t.Errorf("Bits(Float(%d)) = %d", n, got)
		}
		if got := impl.Bits(math.Float64frombits(uint64(n))); got != noNumber {
			t.Errorf("Bits of the float with bits %d = %d", n, got)
		}
		if got := impl.ToInt(n); got != 0 {
			t.Errorf("ToInt(%d) = %d, want 0", n, got)
		}
	}
}

func TestOperationsOnNoNumber(t *testing.T) {
	for _, n := range noNumberBits() {
		for _, x := range append(numberBits(), noNumberBits()...) {
			for _, op := range []int{impl.FaAdd, impl.FaSub, impl.FaMul, impl.FaDiv} {
				if got := impl.Arith(op, n, x); got != noNumber {
					t.Errorf("Arith(%d, %d, %d) = %d, want no number", op, n, x, got)
				}
				if got := impl.Arith(op, x, n); got != noNumber {
					t.Errorf("Arith(%d, %d, %d) = %d, want no number", op, x, n, got)
				}
			}
			for _, op := range []int{impl.FaLess, impl.FaSame} {
				if impl.Arith(op, n, x) != 0 || impl.Arith(op, x, n) != 0 {
					t.Errorf("op %d holds of %d and %d", op, n, x)
				}
			}
		}
	}
}

func TestOpsAreNumbered(t *testing.T) {
	if impl.FaAdd != 0 || impl.FaSub != 1 || impl.FaMul != 2 || impl.FaDiv != 3 || impl.FaLess != 4 || impl.FaSame != 5 {
		t.Fatal("the ops have other numbers")
	}
}

func TestArithOfKnownFloats(t *testing.T) {
	one, two, three := impl.Bits(1), impl.Bits(2), impl.Bits(3)
	cases := []struct{ op, a, b, want int }{
		{impl.FaAdd, one, two, three},
		{impl.FaAdd, impl.Bits(0.1), impl.Bits(0.2), 0x3FD3333333333334},
		{impl.FaAdd, plusNought, minusNought, plusNought},
		{impl.FaAdd, minusNought, minusNought, minusNought},
		{impl.FaAdd, one, impl.Bits(-1), plusNought},
		{impl.FaAdd, greatest, greatest, plusInf},
		{impl.FaAdd, plusInf, plusInf, plusInf},
		{impl.FaAdd, plusInf, minusInf, noNumber},
		{impl.FaAdd, impl.Bits(two53), one, impl.Bits(two53)},
		{impl.FaSub, two, three, impl.Bits(-1)},
		{impl.FaSub, three, two, one},
		{impl.FaSub, minusNought, plusNought, minusNought},
		{impl.FaSub, plusNought, plusNought, plusNought},
		{impl.FaSub, plusInf, plusInf, noNumber},
		{impl.FaSub, least, greatest, minusInf},
		{impl.FaMul, two, three, impl.Bits(6)},
		{impl.FaMul, impl.Bits(-1), plusNought, minusNought},
		{impl.FaMul, minusNought, minusNought, plusNought},
		{impl.FaMul, plusNought, plusInf, noNumber},
		{impl.FaMul, greatest, impl.Bits(-2), minusInf},
		{impl.FaMul, tiniest, impl.Bits(0.5), plusNought},
		{impl.FaDiv, one, two, impl.Bits(0.5)},
		{impl.FaDiv, one, three, 0x3FD5555555555555},
		{impl.FaDiv, one, plusNought, plusInf},
		{impl.FaDiv, one, minusNought, minusInf},
		{impl.FaDiv, one, minusInf, minusNought},
		{impl.FaDiv, plusNought, plusNought, noNumber},
		{impl.FaDiv, plusNought, minusNought, noNumber},
		{impl.FaDiv, plusInf, minusInf, noNumber},
	}
	for _, c := range cases {
		if got := impl.Arith(c.op, c.a, c.b); got != c.want {
			t.Errorf("Arith(%d, %d, %d) = %d, want %d", c.op, c.a, c.b, got, c.want)
		}
	}
}

func TestArithCompares(t *testing.T) {
	rising := []int{minusInf, least, impl.Bits(-2), impl.Bits(-1), math.MinInt + 1, plusNought, tiniest, impl.Bits(0.5), impl.Bits(1), 0x3FF0000000000001, greatest, plusInf}
	for i, a := range rising {
		for j, b := range rising {
			if got := impl.Arith(impl.FaLess, a, b) == 1; got != (i < j) {
				t.Errorf("%d less than %d: %v", a, b, got)
			}
			if got := impl.Arith(impl.FaSame, a, b) == 1; got != (i == j) {
				t.Errorf("%d same as %d: %v", a, b, got)
			}
		}
	}
	for _, p := range [][2]int{{plusNought, minusNought}, {minusNought, plusNought}, {minusNought, minusNought}} {
		if impl.Arith(impl.FaSame, p[0], p[1]) != 1 || impl.Arith(impl.FaLess, p[0], p[1]) != 0 {
			t.Errorf("the noughts %d and %d do not compare as the same", p[0], p[1])
		}
	}
}

func TestSumsAndProductsDoNotHangOnOrder(t *testing.T) {
	list := append(numberBits(), noNumberBits()...)
	list = append(list, spread(150)...)
	for _, a := range list {
		for _, b := range list {
			for _, op := range []int{impl.FaAdd, impl.FaMul} {
				if x, y := impl.Arith(op, a, b), impl.Arith(op, b, a); x != y {
					t.Errorf("Arith(%d, %d, %d) = %d, the other way %d", op, a, b, x, y)
				}
			}
		}
	}
}

func TestArithOfAnOpThatIsNone(t *testing.T) {
	for _, op := range []int{-1, 6, 7, 256, math.MinInt, math.MaxInt} {
		for _, n := range append(numberBits(), noNumberBits()...) {
			if got := impl.Arith(op, n, impl.Bits(2)); got != 0 {
				t.Errorf("Arith(%d, %d, 2) = %d, want 0", op, n, got)
			}
		}
	}
}

func TestFromInt(t *testing.T) {
	cases := []struct {
		n    int
		want float64
	}{
		{0, 0}, {1, 1}, {-1, -1}, {-3, -3}, {1000000007, 1000000007},
		{two53 - 1, 9007199254740991}, {two53, two53}, {two53 + 1, two53}, {two53 + 2, 9007199254740994}, {two53 + 3, 9007199254740996},
		{-two53 + 1, -9007199254740991}, {-two53, -two53}, {-two53 - 1, -two53}, {-two53 - 3, -9007199254740996},
		{math.MaxInt, 1 << 63}, {math.MaxInt - 511, 1 << 63}, {math.MaxInt - 512, 9223372036854774784}, {math.MinInt, -1 << 63},
	}
	for _, c := range cases {
		if got := impl.FromInt(c.n); got != int(math.Float64bits(c.want)) {
			t.Errorf("FromInt(%d) = %d, the bits of %v", c.n, got, impl.Float(got))
		}
	}
}

func TestToInt(t *testing.T) {
	cases := []struct {
		f    float64
		want int
	}{
		{0, 0}, {0.5, 0}, {-0.5, 0}, {0.9999999999999999, 0}, {-0.9999999999999999, 0}, {1, 1}, {-1, -1}, {2.9, 2}, {-2.9, -2}, {3.5, 3}, {-3.5, -3},
		{math.SmallestNonzeroFloat64, 0}, {-math.SmallestNonzeroFloat64, 0}, {4503599627370495.5, 4503599627370495}, {-4503599627370495.5, -4503599627370495},
		{two53, two53}, {-two53, -two53}, {9223372036854774784, 9223372036854774784}, {-9223372036854774784, -9223372036854774784},
		{1 << 63, math.MaxInt}, {9223372036854777856, math.MaxInt}, {1e300, math.MaxInt}, {math.MaxFloat64, math.MaxInt}, {math.Inf(1), math.MaxInt},
		{-1 << 63, math.MinInt}, {-9223372036854777856, math.MinInt}, {-1e300, math.MinInt}, {-math.MaxFloat64, math.MinInt}, {math.Inf(-1), math.MinInt},
	}
	for _, c := range cases {
		if got := impl.ToInt(int(math.Float64bits(c.f))); got != c.want {
			t.Errorf("ToInt of %v = %d, want %d", c.f, got, c.want)
		}
	}
	if got := impl.ToInt(minusNought); got != 0 {
		t.Errorf("ToInt of -0 = %d", got)
	}
}

func TestIntsComeBackFromFloats(t *testing.T) {
	list := []int{0, 1, -1, two53, two53 - 1, two53 - 2, -two53, -two53 + 1, -two53 + 2, 1 << 52, -1 << 52, 1<<52 + 1}
	for _, n := range spread(5000) {
		list = append(list, n%(two53+1))
	}
	for n := -300; n <= 300; n++ {
		list = append(list, n)
	}
	for _, n := range list {
		if got := impl.ToInt(impl.FromInt(n)); got != n {
			t.Errorf("%d comes back as %d", n, got)
		}
	}
	beyond := [][2]int{
		{two53 + 1, two53}, {two53 + 2, two53 + 2}, {-two53 - 1, -two53}, {-two53 - 2, -two53 - 2},
		{math.MaxInt, math.MaxInt}, {math.MinInt, math.MinInt}, {math.MinInt + 1, math.MinInt},
	}
	for _, p := range beyond {
		if got := impl.ToInt(impl.FromInt(p[0])); got != p[1] {
			t.Errorf("%d comes back as %d, want %d", p[0], got, p[1])
		}
	}
}
