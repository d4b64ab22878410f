package tests

import (
	"maps"
	"math"
	"slices"
	"testing"

	"loop.example/g00306/impl"
)

// evicting forgets, of each function's values, what was in a home that another one gets; and at safe places all that is
// in a register.
type evicting struct {
	unit  impl.Unit
	homes [][]int
}

func (e evicting) atBlock(fn int, block int, values map[int]any) {
	e.evict(fn, e.unit.Fns[fn].Blocks[block].Params, values)
}

func (e evicting) atVal(fn int, val int, values map[int]any) {
	if isSafe(e.unit.Fns[fn].Vals[val].Op) {
		maps.DeleteFunc(values, func(v int, _ any) bool { return e.homes[fn][v] < impl.Regs })
	}
	e.evict(fn, []int{val}, values)
}

func (e evicting) evict(fn int, comers []int, values map[int]any) {
	list := e.homes[fn]
	for _, v := range comers {
		maps.DeleteFunc(values, func(w int, _ any) bool { return list[w] == list[v] })
	}
}

// lodgers counts what was told of the units that were made, so that it is seen that there was much to tell.
type lodgers struct {
	m                                           *maker
	units, fns, regs, slots, pressed, none, low int
	faults, ends                                map[string]int
}

func newLodgers(m *maker) *lodgers {
	return &lodgers{m: m, faults: map[string]int{}, ends: map[string]int{}}
}

// add holds what Homes tells of all functions of a unit against the promise, and HomesOk against the second way.
func (c *lodgers) add(t *testing.T, u impl.Unit, inputs ...[]int) {
	t.Helper()
	told, other := evicting{unit: u}, evicting{unit: u}
	for n, f := range u.Fns {
		list := c.ask(t, u, n)
		second := newLodging(f)
		c.count(f, second, list)
		told.homes = append(told.homes, list)
		other.homes = append(other.homes, c.challenge(t, u, n, second, list))
	}
	c.units++
	for _, input := range inputs {
		c.ends[endKind(wantForgotten(t, u, told, input))]++
		wantForgotten(t, u, other, input)
	}
}

// ask looks at the memory of some answers alone, since that takes long.
func (c *lodgers) ask(t *testing.T, u impl.Unit, n int) []int {
	t.Helper()
	if c.fns++; c.fns%7 == 0 {
		list, ok := homes(t, u, n)
		if !ok {
			t.Fatalf("refused:\n%s", showUnit(u))
		}
		return list
	}
	list, ok := impl.Homes(u, n)
	wantHomesSecond(t, u, n, list, ok)
	if !ok || !impl.HomesOk(u, n, list) {
		t.Fatalf("%v: %v\nof %d of\n%s", ok, list, n, showUnit(u))
	}
	return list
}

func (c *lodgers) count(f impl.Fn, second lodging, list []int) {
	for v, home := range list {
		switch {
		case home < 0:
			c.none++
		case home < impl.Regs:
			c.regs++
		default:
			c.slots++
			if !slices.Contains(second.across, v) {
				c.pressed++
			}
		}
	}
	made := standings(f)
	for v, s := range secondSpans(f) {
		if placesOf(f)[s.from] != made[v] {
			c.low++
		}
	}
}

// challenge asks HomesOk of homes that are others than those that were told; and tells some that are well.
func (c *lodgers) challenge(t *testing.T, u impl.Unit, n int, second lodging, list []int) []int {
	t.Helper()
	well := second.settled(c.m)
	if fault := second.fault(well); fault != "" {
		t.Fatalf("%s: %v of %d of\n%s", fault, well, n, showUnit(u))
	}
	lists := [][]int{well, c.changed(well), c.changed(well), c.changed(list), c.changed(list), c.swapped(list), c.swapped(well)}
	for _, changed := range lists {
		fault := second.fault(changed)
		if ok := impl.HomesOk(u, n, changed); ok != (fault == "") {
			t.Fatalf("%v, the second way: %q, of %v of %d of\n%s", ok, fault, changed, n, showUnit(u))
		}
		c.faults[fault]++
	}
	return well
}

// changed are homes of which one is another: mostly one that another value has.
func (c *lodgers) changed(list []int) []int {
	list = slices.Clone(list)
	if len(list) > 0 {
		more := []int{-1, c.m.pick(impl.Regs), impl.Regs + c.m.pick(4), impl.Regs + impl.MaxSlots, -2, impl.Regs + impl.MaxSlots - 1, math.MaxInt, math.MinInt}
		home := list[c.m.pick(len(list))]
		if home < 0 || c.m.pick(4) == 0 {
			home = more[c.m.pick(len(more))]
		}
		list[c.m.pick(len(list))] = home
	}
	if c.m.pick(40) == 0 {
		list = append(list, c.m.pick(3)-1)
	}
	return list
}

// swapped are homes of which two values with a type have each other's.
func (c *lodgers) swapped(list []int) []int {
	list = slices.Clone(list)
	housed := slices.DeleteFunc(upTo(len(list)), func(v int) bool { return list[v] < 0 })
	if len(housed) > 0 {
		v, w := housed[c.m.pick(len(housed))], housed[c.m.pick(len(housed))]
		list[v], list[w] = list[w], list[v]
	}
	return list
}

// settled are homes that are well, but others than the program's: values get theirs in any order, any register that nobody
// has who is needed with them, or else any slot; so slots are used more than once, and spans play no part.
func (g lodging) settled(m *maker) []int {
	list := slices.Repeat([]int{-1}, len(g.f.Vals))
	with := make([][]int, len(g.f.Vals))
	for _, place := range g.meeting {
		for _, v := range place.values {
			with[v] = append(with[v], place.values...)
		}
	}
	turner := unitMaker{maker: *m}
	for _, v := range turner.turned(len(list), 0) {
		if !hasType(g.f, v) {
			continue
		}
		first, count := m.pick(impl.Regs), impl.Regs
		if slices.Contains(g.across, v) {
			first, count = impl.Regs, impl.Regs+impl.MaxSlots
		}
		isTaken := func(home int) bool {
			return slices.ContainsFunc(with[v], func(w int) bool { return w != v && list[w] == home })
		}
		home := first
		for n := 0; isTaken(home); n++ {
			home = (first + n) % count
			if n >= count {
				home = n
			}
		}
		list[v] = home
	}
	return list
}

// want fails unless there was enough, also of what is not well, and runs that ended in these ways.
func (c *lodgers) want(t *testing.T, least int, ends ...string) {
	t.Helper()
	t.Logf("%d units, %d functions, %d in registers, %d in slots, %d of them for want of a register, %d without, %d begin ahead of where they are made; %v; %v", c.units, c.fns, c.regs, c.slots, c.pressed, c.none, c.low, c.faults, c.ends)
	if c.units < least || c.regs < 5*c.units || c.slots < c.units/3 || c.none < c.units {
		t.Error("too little to tell")
	}
	for _, fault := range []string{"", "none just where there is no type", "no home", "a register across a safe place", "behind a value", "at the beginning"} {
		if c.faults[fault] < least/20 {
			t.Errorf("too few with the fault %q: %v", fault, c.faults)
		}
	}
	for _, end := range ends {
		if c.ends[end] == 0 {
			t.Errorf("none ends with %s: %v", end, c.ends)
		}
	}
}

// TestManySourcesHomes is the promise, of units of sources of all kinds of parts, and of the same behind passes.
func TestManySourcesHomes(t *testing.T) {
	t.Parallel()
	numbers := spread(60000)
	c := newLodgers(newMaker(numbers, 73))
	for round, u := range sourceUnits(t, numbers, 160) {
		c.add(t, u, promiseInput(numbers, round))
	}
	c.want(t, 700, "exit", "panic", "trap nil", "trap index", "trap make", "trap zero")
}

// TestWaysHomes is the promise, of units that set variables all over ifs and loops, and of the same behind passes.
func TestWaysHomes(t *testing.T) {
	t.Parallel()
	numbers := spread(60000)
	c := newLodgers(newMaker(numbers, 79))
	for round, u := range wayUnits(t, numbers, 80) {
		c.add(t, u, promiseInput(numbers, round*5), nil)
	}
	c.want(t, 300, "exit", "panic", "trap nil")
}

// TestLivelySourcesHomes is the promise, of units that do much before they end, and of the same behind passes.
func TestLivelySourcesHomes(t *testing.T) {
	t.Parallel()
	numbers := spread(40000)
	c := newLodgers(newMaker(numbers, 83))
	for round, u := range livelyUnits(t, numbers, 80) {
		c.add(t, u, promiseInput(numbers, round*3))
	}
	c.want(t, 200, "exit")
}

// TestManyUnitsHomes is the promise, of units of all sorts, whose values and blocks have their numbers in no order.
func TestManyUnitsHomes(t *testing.T) {
	t.Parallel()
	numbers := spread(60000)
	c := newLodgers(newMaker(numbers, 89))
	for round, u := range anyUnits(t, numbers, 500) {
		c.add(t, u, promiseInput(numbers, round), nil)
	}
	c.want(t, 900, "exit", "panic", "trap nil", "trap index", "trap zero", "deep", "stuck", "fuel")
	if c.low < c.units {
		t.Error("too few begin ahead of where they are made: ", c.low)
	}
}

// crowdedUnit makes a unit with many values that are needed far from where they are made, and hardly a safe place.
func crowdedUnit(numbers []int, first int) impl.Unit {
	m := newUnitMaker(numbers, first)
	m.u.Structs = [][]impl.Ty{{tyInt()}}
	m.u.Fns = []impl.Fn{{}}
	m.bodyWith(1+m.pick(7), func() {
		for range 2 + m.pick(10) {
			switch m.pick(5) {
			case 0, 1:
				m.put(impl.VaRead, 0, tyInt())
			case 2, 3:
				m.put(impl.VaArith, m.pick(3), tyInt(), m.need(tyInt()), m.need(tyInt()))
			default:
				m.put(impl.VaPrint, 0, impl.Ty{}, m.need(tyInt()))
			}
		}
		if m.pick(12) == 0 {
			m.put(impl.VaNew, 0, tyPtr(0))
		}
	})
	return m.u
}

// TestCrowdedUnitsHomes is the promise, of units with more values than registers at many places.
func TestCrowdedUnitsHomes(t *testing.T) {
	t.Parallel()
	numbers := spread(60000)
	c := newLodgers(newMaker(numbers, 101))
	for round := range 700 {
		c.add(t, crowdedUnit(numbers, round*71), promiseInput(numbers, round), nil)
	}
	c.want(t, 700, "exit", "panic", "fuel")
	if c.pressed < 3*c.units || c.low < c.units {
		t.Errorf("%d slots for want of a register, %d begin ahead of where they are made", c.pressed, c.low)
	}
}

// TestUnitsByHandHomes is the promise, of units that are written by hand, behind each list of passes.
func TestUnitsByHandHomes(t *testing.T) {
	t.Parallel()
	c := newLodgers(newMaker(spread(9000), 97))
	for u := range handUnits(t) {
		c.add(t, u, nil, []int{1, 2, 3}, []int{5, 0, 1, -7, 100})
	}
	for _, text := range append(homeTexts, append(optTexts, tidyTexts...)...) {
		for _, u := range []impl.Unit{unitOf(text), turnedNumbers(unitOf(text)), turnedBlocks(unitOf(text)), turnedBlocks(turnedNumbers(unitOf(text)))} {
			for n := range u.Fns {
				homes(t, u, n)
			}
			c.add(t, u, nil, []int{1, 2, 3})
		}
	}
	c.want(t, 400, "exit", "trap make", "fuel", "deep")
}

// TestEvictingIsSeen: the way in which the promise is tested finds homes that two values have at once, and a register
// across a safe place.
func TestEvictingIsSeen(t *testing.T) {
	u := unitOf("struct int; fn main; x = read; y = read; p = new 0; print y; jump a x; a q:int :; print q; print x; return")
	done := func(list ...int) (end string) {
		defer func() {
			if recover() != nil {
				end = "forgotten"
			}
		}()
		m := unitModel{model: model{most: 100}, unit: u, forget: evicting{u, [][]int{list}}}
		m.call(0, nil)
		return "well"
	}
	for _, x := range []struct {
		list []int
		want string
	}{
		{[]int{6, 7, 0, -1, 0, -1, -1}, "well"}, {[]int{6, 7, 7, -1, 0, -1, -1}, "forgotten"}, {[]int{6, 6, 0, -1, 0, -1, -1}, "forgotten"}, {[]int{6, 0, 1, -1, 0, -1, -1}, "forgotten"},
		{[]int{6, 7, 0, -1, 6, -1, -1}, "forgotten"}, {[]int{6, 7, 0, -1, 7, -1, -1}, "well"}, {[]int{5, 7, 0, -1, 0, -1, -1}, "forgotten"},
	} {
		if got := done(x.list...); got != x.want || homesOk(t, u, 0, x.list) != (x.want == "well") {
			t.Errorf("%v: %s, want %s", x.list, got, x.want)
		}
	}
}
