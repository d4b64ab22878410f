package tests

import (
	"fmt"
	"slices"
	"testing"

	"loop.example/g00306/impl"
)

// emissions counts what was told of the units that were made, and what their images did, so that it is seen that there was
// much to tell.
type emissions struct {
	units, ins, slots, temps, mapped, empty int
	moves, copies, runs                     int
	ops                                     map[int]int
	// How units ended, and how images did in the roomiest setup, and in all.
	ends, roomy, all map[string]int
}

func newEmissions() *emissions {
	return &emissions{ops: map[int]int{}, ends: map[string]int{}, roomy: map[string]int{}, all: map[string]int{}}
}

// add holds what Emit tells of a unit against the promise.
func (c *emissions) add(t *testing.T, u impl.Unit, inputs ...[]int) {
	t.Helper()
	m := c.ask(t, u)
	c.count(m)
	c.units++
	for _, input := range inputs {
		o, list := wantImageDoes(t, u, m, input)
		c.ends[endKind(o)]++
		c.roomy[endKind(impl.Outcome{End: list[0].End, Code: list[0].Code})]++
		for _, r := range list {
			c.all[endKind(impl.Outcome{End: r.End, Code: r.Code})]++
			c.moves, c.copies, c.runs = c.moves+r.Moves, c.copies+r.Copies, c.runs+1
		}
	}
	if c.units%23 == 0 {
		// What the machine does with such images is held against the second machine, too.
		for _, s := range emitSetups(newMaker(spread(400), c.units), promiseInput(spread(50), c.units), 700) {
			runMachine(t, m, s)
		}
	}
}

// ask looks at the memory of some answers alone, since that takes long.
func (c *emissions) ask(t *testing.T, u impl.Unit) impl.Image {
	t.Helper()
	if c.units%7 == 0 {
		m, ok := emit(t, u)
		if !ok {
			t.Fatalf("refused:\n%s", showUnit(u))
		}
		return m
	}
	m, ok := impl.Emit(u)
	wantEmitSecond(t, u, m, ok)
	if !ok {
		t.Fatalf("refused:\n%s", showUnit(u))
	}
	return m
}

func (c *emissions) count(m impl.Image) {
	for _, code := range m.Codes {
		c.ins += len(code.Ins)
		c.slots += code.Frame - impl.Head - code.Params
		for _, i := range code.Ins {
			c.ops[i.Op]++
		}
		for _, safe := range code.Maps {
			c.mapped += len(safe.Slots)
			if len(safe.Slots) == 0 {
				c.empty++
			}
		}
	}
}

// want fails unless there was enough, each op was emitted, much was moved, and units ended in these ways.
func (c *emissions) want(t *testing.T, least int, ends ...string) {
	t.Helper()
	t.Logf("%d units, %d instructions, %d slots and temps, %d slots in maps, %d empty maps; %d runs, %d moves, %d copies; %v; roomy %v; all %v", c.units, c.ins, c.slots, c.mapped, c.empty, c.runs, c.moves, c.copies, c.ends, c.roomy, c.all)
	if c.units < least || c.ins < 20*c.units || c.slots < c.units || c.mapped < c.units || c.empty < c.units/2 || c.moves < c.runs/2 || c.copies < c.runs/10 {
		t.Error("too little to tell")
	}
	for op := impl.MoInt; op <= impl.MoIf; op++ {
		if c.ops[op] == 0 && (op != impl.MoPanic || slices.Contains(ends, "panic")) {
			t.Errorf("no instruction of the op %d", op)
		}
	}
	for _, end := range ends {
		if c.ends[end] == 0 || end != "fuel" && c.roomy[end] == 0 {
			t.Errorf("none ends with %s: %v, %v", end, c.ends, c.roomy)
		}
	}
	// With much room nearly all images come to the units' own ends.
	if c.roomy["memory"] > c.runs/7/20 || c.all["memory"] == 0 {
		t.Errorf("for want of memory end %v of %v", c.roomy["memory"], c.all["memory"])
	}
}

// TestManySourcesEmitted is the promise, of units of sources of all kinds of parts, and of the same behind passes.
func TestManySourcesEmitted(t *testing.T) {
	t.Parallel()
	numbers := spread(60000)
	c := newEmissions()
	for round, u := range sourceUnits(t, numbers, 160) {
		c.add(t, u, promiseInput(numbers, round))
	}
	c.want(t, 700, "exit", "panic", "trap nil", "trap index", "trap make", "trap zero")
}

// TestWaysEmitted is the promise, of units that set variables all over ifs and loops, and of the same behind passes.
func TestWaysEmitted(t *testing.T) {
	t.Parallel()
	numbers := spread(60000)
	c := newEmissions()
	for round, u := range wayUnits(t, numbers, 90) {
		c.add(t, u, promiseInput(numbers, round*5), nil)
	}
	c.want(t, 350, "exit", "panic", "trap nil")
}

// TestLivelySourcesEmitted is the promise, of units that do much before they end, and of the same behind passes.
func TestLivelySourcesEmitted(t *testing.T) {
	t.Parallel()
	numbers := spread(40000)
	c := newEmissions()
	for round, u := range livelyUnits(t, numbers, 90) {
		c.add(t, u, promiseInput(numbers, round*3))
	}
	c.want(t, 220, "exit")
}

// TestManyUnitsEmitted is the promise, of units of all sorts, whose values and blocks have their numbers in no order.
func TestManyUnitsEmitted(t *testing.T) {
	t.Parallel()
	numbers := spread(60000)
	c := newEmissions()
	for round, u := range anyUnits(t, numbers, 600) {
		c.add(t, u, promiseInput(numbers, round), nil)
	}
	c.want(t, 1000, "exit", "panic", "trap nil", "trap index", "trap zero", "deep", "stuck", "fuel")
}

// heapedUnit makes a unit with many objects that lead to each other, many of them needed far from where they are made, and
// hardly a number.
func heapedUnit(numbers []int, first int) impl.Unit {
	m := newUnitMaker(numbers, first)
	m.structs = 2
	m.u.Structs = [][]impl.Ty{{tyInt(), tyPtr(0), tyPtr(1), tyPtrs(0)}, {tyPtr(0), tyInts(), tyInt()}}
	m.u.Fns = []impl.Fn{{}, {Params: []impl.Ty{tyPtr(0), tyInt(), tyPtrs(0)}, Res: tyPtr(0)}, {Params: []impl.Ty{tyPtr(1), tyPtr(0)}, Res: tyPtrs(0)}}
	for n := range m.u.Fns {
		// All calls lead to functions further ahead, so that most of them end.
		m.at = n
		m.bodyWith(1+m.pick(6), func() { m.heap(n) })
	}
	return m.u
}

// heap puts into a block what makes objects, and what puts them into others and prints what is found there.
func (m *unitMaker) heap(n int) {
	for range 2 + m.pick(8) {
		s := m.pick(2)
		p := m.need(tyPtr(s))
		at := m.pick(len(m.u.Structs[s]))
		ty := m.u.Structs[s][at]
		switch m.pick(7) {
		case 0, 1:
			m.put(impl.VaNilCheck, 0, impl.Ty{}, p)
			m.put(impl.VaStore, at, impl.Ty{}, p, m.need(ty))
		case 2:
			m.put(impl.VaNilCheck, 0, impl.Ty{}, p)
			v := m.put(impl.VaLoad, at, ty, p)
			if ty == tyInt() {
				m.put(impl.VaPrint, 0, impl.Ty{}, v)
			}
		case 3:
			m.put(impl.VaPrint, 0, impl.Ty{}, m.put(impl.VaSame, 0, tyInt(), p, m.need(tyPtr(s))))
		case 4:
			m.put(impl.VaNew, s, tyPtr(s))
		case 5:
			m.element(9 + m.pick(3))
		case 6:
			if to := n + 1 + m.pick(2); to < len(m.u.Fns) {
				var args []int
				for _, ty := range m.u.Fns[to].Params {
					args = append(args, m.need(ty))
				}
				m.put(impl.VaCall, to, m.u.Fns[to].Res, args...)
			}
		}
	}
}

// TestHeapedUnitsEmitted is the promise, of units with many objects.
func TestHeapedUnitsEmitted(t *testing.T) {
	t.Parallel()
	numbers := spread(90000)
	c := newEmissions()
	for round := range 600 {
		c.add(t, heapedUnit(numbers, round*113), promiseInput(numbers, round), nil)
	}
	t.Logf("%d units, %d slots in maps, %d runs, %d moves, %d copies; %v; roomy %v; all %v", c.units, c.mapped, c.runs, c.moves, c.copies, c.ends, c.roomy, c.all)
	if c.mapped < 10*c.units || c.moves < c.runs || c.all["memory"] < c.runs/50 || c.ends["exit"] < c.units/10 {
		t.Error("too little to tell")
	}
}

// TestCrowdedUnitsEmitted is the promise, of units with more values than registers at many places.
func TestCrowdedUnitsEmitted(t *testing.T) {
	t.Parallel()
	numbers := spread(60000)
	c := newEmissions()
	for round := range 500 {
		c.add(t, crowdedUnit(numbers, round*71), promiseInput(numbers, round), nil)
	}
	t.Logf("%d units, %d instructions, %d slots and temps; %v", c.units, c.ins, c.slots, c.ends)
	if c.slots < 4*c.units || c.ends["exit"] == 0 || c.ends["panic"] == 0 || c.ends["fuel"] == 0 {
		t.Error("too little to tell")
	}
}

// TestUnitsByHandEmitted is the promise, of units that are written by hand, behind each list of passes, and numbered in
// other ways.
func TestUnitsByHandEmitted(t *testing.T) {
	t.Parallel()
	c := newEmissions()
	for u := range handUnits(t) {
		c.add(t, u, nil, []int{1, 2, 3}, []int{5, 0, 1, -7, 100})
	}
	for _, text := range append(homeTexts, append(optTexts, tidyTexts...)...) {
		for _, u := range []impl.Unit{unitOf(text), turnedNumbers(unitOf(text)), turnedBlocks(unitOf(text)), turnedBlocks(turnedNumbers(unitOf(text)))} {
			if _, ok := emit(t, u); !ok {
				t.Fatalf("refused: %s", text)
			}
			c.add(t, u, someInputs()...)
		}
	}
	t.Logf("%d units, %v, all %v", c.units, c.ends, c.all)
	if c.units < 400 || c.ends["exit"] == 0 || c.ends["trap make"] == 0 || c.ends["fuel"] == 0 || c.ends["deep"] == 0 {
		t.Error("too little to tell")
	}
}

// TestWrongCodeIsSeen: the way in which the promise is tested finds an image in which one instruction or one map is
// another.
func TestWrongCodeIsSeen(t *testing.T) {
	text := "struct int *0; fn main; p = new 0; x = read; store 0 p x; y = read; q = call f p y; nilcheck q; z = load 0 q; print z; w = load 0 p; print w; return; fn f a:*0 b:int > *0; c = new 0; store 0 c b; store 1 c a; r = load 1 c; s = load 0 r; d = sub b s; store 0 r d; if d g h; g :; return c; h :; return a"
	u := unitOf(text)
	m := emitted(t, text)
	differs := func(m impl.Image) bool {
		for _, input := range [][]int{{3, 5}, {4, 4}, {7, 1}} {
			for _, s := range emitSetups(newMaker(spread(400), 1), input, 6000) {
				o, r := impl.RunUnit(u, input, 6000), impl.RunImage(m, s)
				if r.End == impl.EndMemory {
					continue
				}
				if r.End != o.End || r.Code != o.Code || itemsText(r.Out) != itemsText(o.Out) {
					return true
				}
			}
		}
		return false
	}
	if differs(m) {
		t.Fatal("it differs as it is")
	}
	var unseen []string
	for c, code := range m.Codes {
		for pc, i := range code.Ins {
			wrong := roomy(m)
			// Nothing is done there.
			wrong.Codes[c].Ins[pc] = impl.Ins{Op: impl.MoCopy, A: 9, B: 9}
			wrong.Codes[c].Maps = slices.DeleteFunc(wrong.Codes[c].Maps, func(safe impl.Map) bool { return safe.Pc == pc })
			if !differs(wrong) {
				unseen = append(unseen, insText(m, i))
			}
		}
		for n, safe := range code.Maps {
			if len(safe.Slots) > 0 {
				wrong := roomy(m)
				wrong.Codes[c].Maps[n].Slots = nil
				if !differs(wrong) {
					unseen = append(unseen, fmt.Sprint("map ", n))
				}
			}
		}
	}
	// Two loads of what that register has already, the check of what is no nil, and the jump to what comes next.
	want := []string{"load r12 3", "nil r1", "load r15 3", "jump p16"}
	if !slices.Equal(unseen, want) {
		t.Errorf("nobody misses %q, want %q\n%s", unseen, want, moText(m))
	}
}
