package tests

import (
	"fmt"
	"slices"
	"testing"

	"loop.example/g00306/impl"
)

// wantMeans fails unless a run of a text's image does what its source does, or ends for want of memory or fuel where it
// has put out the beginning of that. Where the source itself has not come to an end, it may be behind.
func wantMeans(t *testing.T, text string, passes []int, s impl.Setup, o impl.Outcome, r impl.Result) {
	t.Helper()
	ok := begins(r.Out, o.Out)
	switch {
	case endsItself(r):
		ok = ok && (o.End == impl.EndFuel || r.End == o.End && r.Code == o.Code && len(r.Out) == len(o.Out))
	case r.End == impl.EndMemory || r.End == impl.EndFuel:
		ok = ok && (o.End == impl.EndFuel || len(r.Out) <= len(o.Out)) && r.Code == 0
	default:
		ok = false
	}
	if !ok || r.Steps > s.Fuel {
		t.Fatalf("%s\nbehind %v, with %s: %s\nthe source: %s", text, passes, showSetup(s), resultText(r), outcomeText(o))
	}
}

// wantOraclesAlike fails unless an image ends alike, in as many steps, with all oracles with which it ends by itself, and
// else puts out the beginning of what it does with others. All that is told is the results.
func wantOraclesAlike(t *testing.T, text string, m impl.Image, s impl.Setup, oracles [][]int) []impl.Result {
	t.Helper()
	var list []impl.Result
	for _, oracle := range oracles {
		s.Oracle = oracle
		r := impl.RunImage(m, s)
		for n, other := range list {
			ok := begins(r.Out, other.Out)
			switch {
			case endsItself(r) && endsItself(other):
				ok = ok && r.End == other.End && r.Code == other.Code && r.Steps == other.Steps && len(r.Out) == len(other.Out)
			case endsItself(r):
				ok = ok && other.End == impl.EndMemory && other.Steps <= r.Steps && len(other.Out) <= len(r.Out)
			case endsItself(other):
				ok = ok && r.End == impl.EndMemory && r.Steps <= other.Steps && len(r.Out) <= len(other.Out)
			}
			if !ok {
				t.Fatalf("%s\nwith %s: %s\nwith the oracle %v: %s", text, showSetup(s), resultText(r), oracles[n], resultText(other))
			}
		}
		list = append(list, r)
	}
	return list
}

// wantHalvesAlike fails unless, with no oracle, an image ends alike, in as many steps, with all halves from the first one
// on that is enough, and with no more collections the greater they are.
func wantHalvesAlike(t *testing.T, text string, m impl.Image, s impl.Setup, halves []int) []impl.Result {
	t.Helper()
	var list []impl.Result
	for n, half := range halves {
		s.Half = half
		r := impl.RunImage(m, s)
		if n > 0 {
			last := list[n-1]
			ok := last.End == impl.EndMemory && begins(last.Out, r.Out) && len(last.Out) <= len(r.Out) && last.Steps <= r.Steps
			if last.End != impl.EndMemory {
				ok = r.End == last.End && r.Code == last.Code && r.Steps == last.Steps && r.Moves <= last.Moves && r.Copies == last.Copies && slices.Equal(r.Out, last.Out)
			}
			if !ok {
				t.Fatalf("%s\nwith %s: %s\nwith a half of %d: %s", text, showSetup(s), resultText(r), halves[n-1], resultText(last))
			}
		}
		list = append(list, r)
	}
	return list
}

// someHalves are the least ones, and ever greater ones up to the greatest, ascending.
func someHalves() []int {
	return []int{impl.MinHalf, 9, 10, 12, 13, 16, 17, 20, 25, 30, 31, 32, 40, 50, 64, 80, 100, 130, 200, 400, 1000, 2500, impl.MaxHalf - 1, impl.MaxHalf}
}

// trials holds what becomes of texts against the promises, and counts it.
type trials struct {
	texts, builds, refused, runs, moves, copies, enough int
	means, ends                                         map[string]int
}

func newTrials() *trials {
	return &trials{means: map[string]int{}, ends: map[string]int{}}
}

// add holds a text that is well, behind several lists of passes, against all four promises.
func (c *trials) add(t *testing.T, m *maker, text string, lists [][]int, inputs ...[]int) {
	t.Helper()
	s := wellTyped(t, text)
	c.texts++
	for _, input := range inputs {
		o := impl.Eval(s, input, impl.MaxFuel)
		c.means[endKind(o)]++
		roomiest := map[string]impl.Result{}
		for _, passes := range lists {
			if image, ok := c.build(t, text, passes); ok {
				roomiest[fmt.Sprint(passes)] = c.runAll(t, m, text, passes, image, input, o)
			}
		}
		c.passesAlike(t, text, roomiest)
	}
}

// build is the image of a text; now and then Compile is asked with care.
func (c *trials) build(t *testing.T, text string, passes []int) (impl.Image, bool) {
	t.Helper()
	c.builds++
	var b impl.Build
	if c.builds%19 == 0 {
		b = compile(t, text, passes)
	} else {
		b = impl.Compile([]byte(text), passes)
		wantBuildFits(t, text, b)
	}
	if b.Code != impl.BuildWell {
		c.refused++
		if b.Code != impl.BuildLarge {
			t.Fatalf("%s\nbehind %v: %s", text, passes, showBuild(b))
		}
		return impl.Image{}, false
	}
	m, _ := impl.ImageRead(b.Bytes)
	return m, true
}

// runAll runs an image in all sorts of setups; and tells what it did in the roomiest one, with no oracle.
func (c *trials) runAll(t *testing.T, m *maker, text string, passes []int, image impl.Image, input []int, o impl.Outcome) impl.Result {
	t.Helper()
	fuel := []int{m.pick(60), m.pick(600), 3000 + m.pick(3000)}[m.pick(3)]
	setups := []impl.Setup{
		{Half: impl.MaxHalf, Stack: impl.MaxStack, Fuel: 20000},
		{Half: impl.MinHalf + m.pick(40), Stack: impl.MinStack + m.pick(40), Fuel: 6000},
		{Half: impl.MinHalf + m.pick(300), Stack: 100 + m.pick(800), Fuel: fuel},
	}
	var first impl.Result
	for n, s := range setups {
		s.Input = input
		oracles := someOracles(m)
		for at, r := range wantOraclesAlike(t, text, image, s, oracles) {
			s.Oracle = oracles[at]
			c.ran(t, text, passes, s, o, r)
			if n == 0 && at == 0 {
				first = r
			}
		}
	}
	few := impl.Setup{Stack: impl.MinStack + m.pick(300), Fuel: 2000 + m.pick(4000), Input: input}
	halves := someHalves()
	for at, r := range wantHalvesAlike(t, text, image, few, halves) {
		few.Half = halves[at]
		c.ran(t, text, passes, few, o, r)
		if r.End != impl.EndMemory && at > 0 {
			c.enough++
		}
	}
	return first
}

// ran holds one run against what the source does; now and then RunText is asked with care.
func (c *trials) ran(t *testing.T, text string, passes []int, s impl.Setup, o impl.Outcome, r impl.Result) {
	t.Helper()
	wantMeans(t, text, passes, s, o, r)
	if c.runs++; c.runs%97 == 0 {
		if got := runText(t, text, passes, s); !sameResult(got, r) {
			t.Fatalf("%s\nbehind %v, with %s: %s, its image: %s", text, passes, showSetup(s), resultText(got), resultText(r))
		}
	}
	c.ends[endKind(impl.Outcome{End: r.End, Code: r.Code})]++
	c.moves, c.copies = c.moves+r.Moves, c.copies+r.Copies
}

// passesAlike fails unless, whatever the passes were, the same was put out, and what ended by itself ended alike.
func (c *trials) passesAlike(t *testing.T, text string, results map[string]impl.Result) {
	t.Helper()
	for passes, r := range results {
		for other, q := range results {
			ok := begins(r.Out, q.Out)
			if endsItself(r) {
				ok = ok && len(q.Out) <= len(r.Out)
			}
			if endsItself(r) && endsItself(q) {
				ok = plainResult(r) == plainResult(q)
			}
			if !ok {
				t.Fatalf("%s\nbehind %s: %s\nbehind %s: %s", text, passes, resultText(r), other, resultText(q))
			}
		}
	}
}

// want fails unless there was enough, much was moved, and sources and runs ended in these ways.
func (c *trials) want(t *testing.T, least int, ends ...string) {
	t.Helper()
	t.Logf("%d texts, %d builds, %d refused, %d runs, %d moves, %d copies; %v; %v", c.texts, c.builds, c.refused, c.runs, c.moves, c.copies, c.means, c.ends)
	if c.texts < least || c.refused > c.builds/20 || c.moves < c.runs/2 || c.copies < c.runs/5 || c.enough < c.runs/10 {
		t.Error("too little was tried")
	}
	for _, end := range ends {
		if c.means[end] == 0 || c.ends[end] == 0 {
			t.Errorf("none ends with %s: %v, %v", end, c.means, c.ends)
		}
	}
	if c.ends["memory"] == 0 || c.ends["fuel"] == 0 || c.ends["stuck"] > 0 || c.ends["refused"] > 0 {
		t.Errorf("runs end with %v", c.ends)
	}
}

// trialPasses are no pass, all four, one alone, and many.
func trialPasses(m *maker) [][]int {
	return [][]int{nil, passesOf("fcsd"), {m.pick(4)}, longPasses(m)}
}

// TestManyTextsWhole is the promises, of texts of all kinds of parts.
func TestManyTextsWhole(t *testing.T) {
	t.Parallel()
	numbers := spread(60000)
	m := newMaker(numbers, 71)
	c := newTrials()
	for round := range 150 {
		if text, ok := impl.Print(bared(newTypedMaker(numbers, round*61+13).typedSource())); ok {
			c.add(t, m, string(text), trialPasses(m), promiseInput(numbers, round))
		}
	}
	c.want(t, 120, "exit", "panic", "trap nil", "trap index", "trap make", "deep")
}

// TestWaysWhole is the promises, of texts that set variables all over ifs and loops.
func TestWaysWhole(t *testing.T) {
	t.Parallel()
	numbers := spread(60000)
	m := newMaker(numbers, 73)
	c := newTrials()
	for round := range 100 {
		text := newWayMaker(numbers, round*89+3).source()
		if _, code, _ := impl.Parse([]byte(text)); code == impl.ParseWell {
			c.add(t, m, text, trialPasses(m), promiseInput(numbers, round*5), nil)
		}
	}
	c.want(t, 80, "exit", "panic", "trap nil", "trap index", "trap zero")
}

// TestLivelyTextsWhole is the promises, of texts that do much before they end.
func TestLivelyTextsWhole(t *testing.T) {
	t.Parallel()
	numbers := spread(40000)
	m := newMaker(numbers, 79)
	c := newTrials()
	for round := range 100 {
		text := newLivelyMaker(numbers, round*101+5).source()
		if _, code, _ := impl.Parse([]byte(text)); code == impl.ParseWell {
			c.add(t, m, text, trialPasses(m), promiseInput(numbers, round*3))
		}
	}
	c.want(t, 80, "exit", "trap index", "trap zero")
}

// TestKeepersWhole is the promises, of texts that keep many objects, in all places where they may be kept.
func TestKeepersWhole(t *testing.T) {
	t.Parallel()
	numbers := spread(60000)
	m := newMaker(numbers, 83)
	c := newTrials()
	for round := range 140 {
		text := newKeepMaker(numbers, round*103+7).source()
		if _, code, _ := impl.Parse([]byte(text)); code == impl.ParseWell {
			c.add(t, m, text, trialPasses(m), promiseInput(numbers, round*7), []int{3, 1, 2})
		}
	}
	c.want(t, 120, "exit", "trap nil", "trap index", "trap make", "deep")
}
