package tests

import (
	"fmt"
	"maps"
	"slices"
	"testing"

	"loop.example/g00306/impl"
)

// forgetting keeps, of each function's values, those that are told to be alive.
type forgetting struct {
	lives  []impl.Live
	across [][][]int
}

func (g forgetting) atBlock(fn int, block int, values map[int]any) {
	keepOnly(values, g.lives[fn].In[block])
}

// atVal forgets at safe places alone, which the list of a value that is none does not say.
func (g forgetting) atVal(fn int, val int, values map[int]any) {
	if g.across[fn][val] != nil {
		keepOnly(values, g.across[fn][val])
	}
}

func keepOnly(values map[int]any, keep []int) {
	maps.DeleteFunc(values, func(v int, _ any) bool { return !slices.Contains(keep, v) })
}

// wantForgotten fails unless a unit does what it does when, at each block's beginning and at each value, all is forgotten
// that is to be there.
func wantForgotten(t *testing.T, u impl.Unit, g forgetter, input []int) impl.Outcome {
	t.Helper()
	defer func() {
		if why := recover(); why != nil {
			t.Fatalf("with %v: %v\nof\n%s", input, why, showUnit(u))
		}
	}()
	const fuel = 1500
	m := unitModel{model: model{input: input, most: fuel}, unit: u, forget: g}
	_, end := m.call(u.Main, nil)
	if end == nil {
		end = &modelEnd{end: impl.EndExit}
	}
	o := impl.RunUnit(u, input, fuel)
	if got := m.with(end, fuel); !sameOutcome(got, o) {
		t.Fatalf("with %v: %s\nwithout what is forgotten: %s\nof\n%s", input, outcomeText(o), outcomeText(got), showUnit(u))
	}
	return o
}

// lifetimes counts what was told of the units that were made, so that it is seen that there was much to tell.
type lifetimes struct {
	units, fns, in, out, safe, across, loops int
	ops                                      map[int]int
	ends                                     map[string]int
}

func newLifetimes() *lifetimes {
	return &lifetimes{ops: map[int]int{}, ends: map[string]int{}}
}

// add holds what Lives and Across tell of all functions of a unit against the promise.
func (c *lifetimes) add(t *testing.T, u impl.Unit, inputs ...[]int) {
	t.Helper()
	var g forgetting
	for n := range u.Fns {
		l, lists := c.ask(t, u, n)
		c.count(u.Fns[n], l, lists)
		kept := make([][]int, len(lists))
		for v, list := range lists {
			if isSafe(u.Fns[n].Vals[v].Op) {
				kept[v] = append([]int{}, list...)
			}
		}
		g.lives, g.across = append(g.lives, l), append(g.across, kept)
	}
	c.units++
	for _, input := range inputs {
		c.ends[endKind(wantForgotten(t, u, g, input))]++
	}
}

// ask looks at the memory of some answers alone, since that takes long.
func (c *lifetimes) ask(t *testing.T, u impl.Unit, n int) (impl.Live, [][]int) {
	t.Helper()
	if c.fns++; c.fns%7 == 0 {
		l, ok := lives(t, u, n)
		if !ok {
			t.Fatalf("refused:\n%s", showUnit(u))
		}
		return l, across(t, u, n)
	}
	l, ok := impl.Lives(u, n)
	if !ok {
		t.Fatalf("refused:\n%s", showUnit(u))
	}
	wantLivesSecond(t, u, n, l)
	lists := impl.Across(u, n)
	wantAcrossSecond(t, u, n, lists)
	return l, lists
}

func isSafe(op int) bool {
	return op == impl.VaNew || op == impl.VaMake || op == impl.VaCall
}

func (c *lifetimes) count(f impl.Fn, l impl.Live, lists [][]int) {
	for b, block := range f.Blocks {
		c.in += len(l.In[b])
		c.out += len(l.Out[b])
		for _, v := range l.In[b] {
			c.ops[f.Vals[v].Op]++
		}
		for _, e := range block.Out {
			if e.To <= b && len(l.In[e.To]) > 0 {
				c.loops++
			}
		}
	}
	for v, list := range lists {
		if isSafe(f.Vals[v].Op) {
			c.safe++
		}
		c.across += len(list)
	}
}

// want fails unless there was enough, values of these ops among what was alive, and runs that ended in these ways.
func (c *lifetimes) want(t *testing.T, least int, ops []int, ends ...string) {
	t.Helper()
	t.Logf("%d units, %d functions, %d in, %d out, %d across %d safe places, %d edges back, ops %v, %v", c.units, c.fns, c.in, c.out, c.across, c.safe, c.loops, c.ops, c.ends)
	if c.units < least || c.in < 3*c.units || c.out < 3*c.units || c.across < c.units || c.safe < c.units || c.loops < c.units/3 {
		t.Error("too little to tell")
	}
	for _, op := range ops {
		if c.ops[op] == 0 {
			t.Errorf("no value of the op %d is alive", op)
		}
	}
	for _, end := range ends {
		if c.ends[end] == 0 {
			t.Errorf("none ends with %s: %v", end, c.ends)
		}
	}
}

// typedOps are those whose values can be alive in a block that does not make them.
var typedOps = []int{
	impl.VaPhi, impl.VaInt, impl.VaFloat, impl.VaNil, impl.VaArith, impl.VaDec, impl.VaSame, impl.VaToInt, impl.VaToFloat, impl.VaLen, impl.VaNew, impl.VaMake,
	impl.VaLoad, impl.VaGet, impl.VaRead, impl.VaCall,
}

// TestManySourcesAlive is the promise, of units of sources of all kinds of parts, and of the same behind passes.
func TestManySourcesAlive(t *testing.T) {
	t.Parallel()
	numbers := spread(60000)
	c := newLifetimes()
	for round, u := range sourceUnits(t, numbers, 220) {
		c.add(t, u, promiseInput(numbers, round))
	}
	c.want(t, 1000, []int{impl.VaPhi, impl.VaInt, impl.VaFloat, impl.VaNil, impl.VaArith, impl.VaMake, impl.VaRead}, "exit", "panic", "trap nil", "trap index", "trap make", "trap zero")
}

// TestWaysAlive is the promise, of units that set variables all over ifs and loops, and of the same behind passes.
func TestWaysAlive(t *testing.T) {
	t.Parallel()
	numbers := spread(60000)
	c := newLifetimes()
	for round, u := range wayUnits(t, numbers, 120) {
		c.add(t, u, promiseInput(numbers, round*5), nil)
	}
	c.want(t, 500, []int{impl.VaPhi, impl.VaInt, impl.VaFloat, impl.VaNil, impl.VaArith, impl.VaNew, impl.VaMake, impl.VaLoad, impl.VaGet, impl.VaCall}, "exit", "panic", "trap nil")
}

// TestLivelySourcesAlive is the promise, of units that do much before they end, and of the same behind passes.
func TestLivelySourcesAlive(t *testing.T) {
	t.Parallel()
	numbers := spread(40000)
	c := newLifetimes()
	for round, u := range livelyUnits(t, numbers, 120) {
		c.add(t, u, promiseInput(numbers, round*3))
	}
	c.want(t, 300, []int{impl.VaPhi, impl.VaInt, impl.VaNew, impl.VaMake}, "exit")
}

// TestManyUnitsAlive is the promise, of units of all sorts, whose values and blocks have their numbers in no order.
func TestManyUnitsAlive(t *testing.T) {
	t.Parallel()
	numbers := spread(60000)
	c := newLifetimes()
	for round, u := range anyUnits(t, numbers, 600) {
		c.add(t, u, promiseInput(numbers, round), nil)
	}
	c.want(t, 1000, typedOps, "exit", "panic", "trap nil", "trap index", "trap zero", "deep", "stuck", "fuel")
}

// TestUnitsByHandAlive is the promise, of units that are written by hand, behind each list of passes.
func TestUnitsByHandAlive(t *testing.T) {
	c := newLifetimes()
	for _, text := range append(optTexts, tidyTexts...) {
		wantTurnedAlike(t, unitOf(text))
	}
	for u := range handUnits(t) {
		c.add(t, u, nil, []int{1, 2, 3}, []int{5, 0, 1, -7, 100})
	}
	if c.units < 400 || c.in == 0 || c.across == 0 {
		t.Error("too little to tell: ", c.units, c.in, c.across)
	}
}

// TestForgettingIsSeen: the way in which the promise is tested finds a list in which one value lacks.
func TestForgettingIsSeen(t *testing.T) {
	u := unitOf("struct int; fn main; x = read; p = new 0; jump a; a :; print x; nilcheck p; return")
	l, _ := lives(t, u, 0)
	lists := across(t, u, 0)
	full := forgetting{[]impl.Live{l}, [][][]int{lists}}
	if got := outcomeText(wantForgotten(t, u, full, []int{4})); got != "exit in 6: 4" {
		t.Error(got)
	}
	less := func(l impl.Live, lists [][]int) string {
		defer func() { recover() }()
		m := unitModel{model: model{most: 100}, unit: u, forget: forgetting{[]impl.Live{l}, [][][]int{lists}}}
		_, end := m.call(0, nil)
		return fmt.Sprint("went on to ", end)
	}
	for _, got := range []string{
		less(impl.Live{In: [][]int{nil, {0}}}, lists), less(impl.Live{In: [][]int{nil, {1}}}, lists), less(l, [][]int{1: {}, 4: nil}),
	} {
		if got != "" {
			t.Error(got)
		}
	}
}
