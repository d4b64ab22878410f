package tests

import (
	"iter"
	"testing"

	"loop.example/g00306/impl"
)

// behindPasses are a unit, and what some lists of passes make of it.
func behindPasses(t *testing.T, m *maker, u impl.Unit) []impl.Unit {
	t.Helper()
	units := []impl.Unit{u}
	for _, passes := range [][]int{{impl.PassFold}, {impl.PassCopy}, {impl.PassSame}, {impl.PassDead}, passesOf("fcsd"), longPasses(m)} {
		o, ok := impl.Optimize(u, passes)
		if !ok {
			t.Fatalf("%v refused of\n%s", passes, unitText(u))
		}
		units = append(units, o)
	}
	return units
}

// loweredUnits are, each with the number of its round, the units of the sources of so many rounds, and the same behind
// passes.
func loweredUnits(t *testing.T, m *maker, rounds int, source func(round int) impl.Source) iter.Seq2[int, impl.Unit] {
	return func(yield func(int, impl.Unit) bool) {
		for round := range rounds {
			u, ok := impl.Lower(source(round))
			if !ok {
				continue
			}
			for _, o := range behindPasses(t, m, u) {
				if !yield(round, o) {
					return
				}
			}
		}
	}
}

func typedOf(text string) impl.Source {
	parsed, _, _ := impl.Parse([]byte(text))
	source, _ := impl.Check(parsed)
	return source
}

// sourceUnits are loweredUnits of sources of all kinds of parts.
func sourceUnits(t *testing.T, numbers []int, rounds int) iter.Seq2[int, impl.Unit] {
	return loweredUnits(t, newMaker(numbers, 53), rounds, func(round int) impl.Source { return newTypedMaker(numbers, round*59+7).typedSource() })
}

// wayUnits are loweredUnits of sources that set variables all over ifs and loops.
func wayUnits(t *testing.T, numbers []int, rounds int) iter.Seq2[int, impl.Unit] {
	return loweredUnits(t, newMaker(numbers, 59), rounds, func(round int) impl.Source { return typedOf(newWayMaker(numbers, round*89+3).source()) })
}

// livelyUnits are loweredUnits of sources that do much before they end.
func livelyUnits(t *testing.T, numbers []int, rounds int) iter.Seq2[int, impl.Unit] {
	return loweredUnits(t, newMaker(numbers, 61), rounds, func(round int) impl.Source { return typedOf(newLivelyMaker(numbers, round*97+1).source()) })
}

// anyUnits are, each with the number of its round, units of all sorts, whose values and blocks have their numbers in no
// order; some of them behind passes, too.
func anyUnits(t *testing.T, numbers []int, rounds int) iter.Seq2[int, impl.Unit] {
	m := newMaker(numbers, 67)
	return func(yield func(int, impl.Unit) bool) {
		for round := range rounds {
			u := newUnitMaker(numbers, round*67).unit()
			units := []impl.Unit{u}
			if round%4 == 0 {
				units = behindPasses(t, m, u)
			}
			for _, o := range units {
				if !yield(round, o) {
					return
				}
			}
		}
	}
}

// handUnits are units that are written by hand, behind each list of passes.
func handUnits(t *testing.T) iter.Seq[impl.Unit] {
	return func(yield func(impl.Unit) bool) {
		for _, text := range append(optTexts, tidyTexts...) {
			for _, passes := range somePasses() {
				o, ok := impl.Optimize(unitOf(text), passes)
				if !ok {
					t.Fatalf("%v refused of %s", passes, text)
				}
				if !yield(o) {
					return
				}
			}
		}
	}
}
