package impl

import "math"

// One number stands for all that are no number, so bits can be held against each other as ints.
const noNumberBits = 9221120237041090561

// Bits tells the 64 bits of f as an int; all that are no number have the same ones.
func Bits(f float64) int {
	if math.IsNaN(f) {
		return noNumberBits
	}
	return int(math.Float64bits(f))
}

// Float tells the float that has these 64 bits.
func Float(n int) float64 {
	return math.Float64frombits(uint64(n))
}

// The ops of Arith.
const (
	FaAdd = iota
	FaSub
	FaMul
	FaDiv
	FaLess
	FaSame
)

// Arith works on the floats whose bits a and b are; 0 for an op that is none.
func Arith(op int, a int, b int) int {
	x, y := Float(a), Float(b)
	switch op {
	case FaAdd:
		return Bits(x + y)
	case FaSub:
		return Bits(x - y)
	case FaMul:
		return Bits(x * y)
	case FaDiv:
		return Bits(x / y)
	case FaLess:
		return oneIf(x < y)
	case FaSame:
		// The floats are compared, not the bits: both noughts are the same, and what is no number is not even itself.
		return oneIf(x == y)
	}
	return 0
}

func oneIf(holds bool) int {
	if holds {
		return 1
	}
	return 0
}

// FromInt tells the bits of n as a float.
func FromInt(n int) int {
	return Bits(float64(n))
}

// ToInt tells the float with the bits n without what stands behind its point, held within the ends of ints.
func ToInt(n int) int {
	// 2^63 is a float and 2^63 - 1 is none: the first float past the greatest int.
	const pastInts = 1 << 63
	f := Float(n)
	switch {
	case math.IsNaN(f):
		return 0
	case f >= pastInts:
		return math.MaxInt
	case f < -pastInts:
		return math.MinInt
	}
	return int(f)
}
