package tests

import (
	"fmt"
	"math"
	"testing"

	"loop.example/g00306/impl"
)

// withCode has a code behind one that is Main, and one ahead.
func withCode(c impl.Code) impl.Image {
	return impl.Image{Codes: []impl.Code{plainCode(1), c, plainCode(2)}, Main: 2}
}

func TestParamsOfCode(t *testing.T) {
	with := func(params int) impl.Image { return withCode(codeOf(50, params, mo(impl.MoReturn, 0))) }
	wantImages(t, "Params", true, with, 0, 1, 2, 3, impl.MaxParams)
	wantImages(t, "Params", false, with, -1, -2, -50, impl.MaxParams+1, impl.MaxParams+2, 46, 47, 48, 50, math.MinInt, math.MaxInt)
	wantImages(t, "Params", false, with, oddInts(2)...)
	// The sum with Head goes round.
	round := func(params int) impl.Image { return withCode(codeOf(3, params, mo(impl.MoReturn, 0))) }
	wantImages(t, "Params", false, round, math.MaxInt, math.MaxInt-1, math.MaxInt-2, math.MaxInt-3)
}

// TestFrameOfCode: from what the head and the Params take on.
func TestFrameOfCode(t *testing.T) {
	for params := range impl.MaxParams + 1 {
		with := func(frame int) impl.Image { return withCode(codeOf(frame, params, mo(impl.MoReturn, 0))) }
		least := impl.Head + params
		wantImages(t, fmt.Sprint(params, " Params, Frame"), true, with, least, least+1, 255, 256, 257, 999, impl.MaxFrame)
		wantImages(t, fmt.Sprint(params, " Params, Frame"), false, with, least-1, least-2, 0, -1, -least, impl.MaxFrame+1, impl.MaxFrame+2, 1<<16-1, math.MinInt, math.MinInt+1, math.MaxInt-1, math.MaxInt)
		wantImages(t, fmt.Sprint(params, " Params, Frame"), false, with, least+1<<16, least-1<<16, least+1<<32, least+1<<40, least-1<<32)
	}
	for _, at := range []int{0, 1} {
		with := func(frame int) impl.Image {
			m := imageOf(plainCode(1), plainCode(1))
			m.Codes[at].Frame = frame
			return m
		}
		wantImages(t, fmt.Sprint("Frame of ", at), true, with, impl.Head, impl.MaxFrame)
		wantImages(t, fmt.Sprint("Frame of ", at), false, with, impl.Head-1, impl.MaxFrame+1)
	}
}

// TestCountOfIns: none, one, as many as there may be, one more; of the only code, and of each of several.
func TestCountOfIns(t *testing.T) {
	t.Parallel()
	for _, count := range []int{0, 1, 2, 255, 256, 257, impl.MaxCode - 1, impl.MaxCode, impl.MaxCode + 1, impl.MaxCode + 2, 1 << 16, 1<<16 + 1} {
		want := count >= 1 && count <= impl.MaxCode
		wantImage(t, fmt.Sprint(count, " instructions"), imageOf(plainCode(count)), want)
		wantImage(t, fmt.Sprint(count, " instructions, not of Main"), withCode(plainCode(count)), want)
		wantImage(t, fmt.Sprint(count, " instructions of the last one"), imageOf(plainCode(1), plainCode(count)), want)
	}
	// A map for each, as many as there may be.
	for _, count := range []int{impl.MaxCode, impl.MaxCode + 1} {
		c := plainCode(count)
		for pc := range c.Ins {
			c.Ins[pc] = mo(impl.MoMake, pc%3)
		}
		wantImage(t, fmt.Sprint(count, " maps"), imageOf(codeOf(4, 0, c.Ins...)), count == impl.MaxCode)
	}
}
