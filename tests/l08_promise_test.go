package tests

import (
	"fmt"
	"slices"
	"testing"

	"loop.example/g00306/impl"
)

// somePasses are no pass, each alone, each pair, and all four in each order.
func somePasses() [][]int {
	lists := [][]int{nil}
	for a := range 4 {
		lists = append(lists, []int{a})
		for b := range 4 {
			lists = append(lists, []int{a, b})
			for c := range 4 {
				if d := 6 - a - b - c; a != b && a != c && b != c {
					lists = append(lists, []int{a, b, c, d})
				}
			}
		}
	}
	return lists
}

// longPasses is a longer list of passes, up to as many as there may be.
func longPasses(m *maker) []int {
	var list []int
	for range 5 + m.pick(impl.MaxPasses-4) {
		list = append(list, m.pick(4))
	}
	return list
}

// savings counts what passes made less of the units that were made, and how these ended.
type savings struct {
	units, lists    int
	vals, blocks    map[string]int
	steps, fewer    int
	ends, stuckEnds map[string]int
}

func newSavings() *savings {
	return &savings{vals: map[string]int{}, blocks: map[string]int{}, ends: map[string]int{}, stuckEnds: map[string]int{}}
}

// add holds what Optimize makes of a unit, with lists of passes, against the promise.
func (s *savings) add(t *testing.T, u impl.Unit, lists [][]int, inputs ...[]int) {
	t.Helper()
	s.units++
	for _, passes := range lists {
		ask := optimizeSoon
		if s.lists%11 == 0 {
			ask = optimize
		}
		o, ok := ask(t, u, passes)
		if !ok {
			t.Fatalf("%v refused of\n%s", passes, unitText(u))
		}
		s.lists++
		for n, f := range u.Fns {
			s.vals[fmt.Sprint(passes)] += len(f.Vals) - len(o.Fns[n].Vals)
			s.blocks[fmt.Sprint(passes)] += len(f.Blocks) - len(o.Fns[n].Blocks)
		}
		for _, input := range inputs {
			first, then := wantSameDone(t, u, o, passes, input, 2000)
			s.ends[endKind(first)]++
			if first.End == impl.EndStuck {
				s.stuckEnds[endKind(then)]++
			} else if first.End != impl.EndFuel {
				s.steps += first.Steps
				s.fewer += first.Steps - then.Steps
			}
		}
	}
}

// want fails unless each pass alone saved something, and runs ended in these ways.
func (s *savings) want(t *testing.T, least int, ends ...string) {
	t.Helper()
	t.Logf("%d units, %d lists, %d of %d steps fewer, %v, where stuck %v", s.units, s.lists, s.fewer, s.steps, s.ends, s.stuckEnds)
	if s.units < least || s.fewer == 0 {
		t.Errorf("only %d units, %d steps fewer", s.units, s.fewer)
	}
	for p := range 4 {
		if key := fmt.Sprint([]int{p}); s.vals[key] == 0 || p == impl.PassFold && s.blocks[key] == 0 {
			t.Errorf("pass %d alone: %d values, %d blocks fewer", p, s.vals[key], s.blocks[key])
		}
	}
	if s.vals["[]"] != 0 || s.blocks["[]"] != 0 {
		t.Errorf("without passes: %d values, %d blocks fewer", s.vals["[]"], s.blocks["[]"])
	}
	for _, end := range ends {
		if s.ends[end] == 0 {
			t.Errorf("none ends with %s: %v", end, s.ends)
		}
	}
}

// TestManySourcesAreOptimized is the promise, of units of sources of all kinds of parts.
func TestManySourcesAreOptimized(t *testing.T) {
	t.Parallel()
	numbers := spread(60000)
	m := newMaker(numbers, 23)
	s := newSavings()
	for round := range 90 {
		source := newTypedMaker(numbers, round*59+7).typedSource()
		if u, ok := impl.Lower(source); ok {
			s.add(t, u, append(somePasses(), longPasses(m)), promiseInput(numbers, round))
		}
	}
	s.want(t, 70, "exit", "panic", "trap nil", "trap index", "trap make", "trap zero")
}

// TestWaysAreOptimized is the promise, of units that set variables all over ifs and loops.
func TestWaysAreOptimized(t *testing.T) {
	t.Parallel()
	numbers := spread(60000)
	m := newMaker(numbers, 29)
	s := newSavings()
	for round := range 60 {
		parsed, _, _ := impl.Parse([]byte(newWayMaker(numbers, round*89+3).source()))
		source, _ := impl.Check(parsed)
		if u, ok := impl.Lower(source); ok {
			s.add(t, u, append(somePasses(), longPasses(m)), promiseInput(numbers, round*5), nil)
		}
	}
	s.want(t, 40, "exit", "panic")
}

// TestLivelySourcesAreOptimized is the promise, of units that do much before they end.
func TestLivelySourcesAreOptimized(t *testing.T) {
	t.Parallel()
	numbers := spread(40000)
	m := newMaker(numbers, 31)
	s := newSavings()
	for round := range 60 {
		parsed, _, _ := impl.Parse([]byte(newLivelyMaker(numbers, round*97+1).source()))
		source, _ := impl.Check(parsed)
		if u, ok := impl.Lower(source); ok {
			s.add(t, u, append(somePasses(), longPasses(m)), promiseInput(numbers, round*3))
		}
	}
	s.want(t, 30, "exit")
}

// TestManyUnitsAreOptimized is the promise, of units of all sorts, whose values and blocks have their numbers in no order.
func TestManyUnitsAreOptimized(t *testing.T) {
	t.Parallel()
	numbers := spread(60000)
	m := newMaker(numbers, 37)
	s := newSavings()
	for round := range 160 {
		u := newUnitMaker(numbers, round*67).unit()
		lists := append(somePasses(), longPasses(m), longPasses(m))
		s.add(t, u, slices.Clip(lists), promiseInput(numbers, round), nil)
	}
	s.want(t, 160, "exit", "panic", "trap nil", "trap index", "trap zero", "deep", "stuck", "fuel")
	if s.stuckEnds["stuck"] == 0 || len(s.stuckEnds) < 2 {
		t.Errorf("what was stuck ends with %v", s.stuckEnds)
	}
}
