package tests

import (
	"fmt"
	"maps"
	"slices"
	"strings"
	"testing"

	"loop.example/g00306/impl"
)

// lives asks Lives twice, and fails if that writes into the unit, hands out memory that is shared, tells what the sentences
// of the chapter do not say, or tells other than the second way does.
func lives(t *testing.T, u impl.Unit, n int) (impl.Live, bool) {
	t.Helper()
	full := roomy(u)
	was := deepText(full)
	l, ok := impl.Lives(full, n)
	again, same := impl.Lives(full, n)
	if deepText(full) != was {
		t.Errorf("something was written into\n%s", showUnit(u))
	}
	wantFresh(t, l, full)
	wantFresh(t, l, again)
	if ok != same || liveText(l) != liveText(again) {
		t.Errorf("the first time, %v: %s\nthe second time, %v: %s", ok, liveText(l), same, liveText(again))
	}
	if takes := n >= 0 && n < len(u.Fns) && faultOf(u) == ""; ok != takes {
		t.Fatalf("%v, the second way %v, of %d of\n%s", ok, takes, n, showUnit(u))
	}
	if ok {
		wantLivesSecond(t, u, n, l)
	} else if len(l.In) > 0 || len(l.Out) > 0 {
		t.Errorf("refused, but told %s", liveText(l))
	}
	return l, ok
}

// wantLivesSecond fails unless lists keep the sentences, and are those of the second way.
func wantLivesSecond(t *testing.T, u impl.Unit, n int, l impl.Live) {
	t.Helper()
	if fault := sentenceFault(u.Fns[n], l); fault != "" {
		t.Fatalf("%s: %s\nof %d of\n%s", fault, liveText(l), n, showUnit(u))
	}
	if want := secondLives(u.Fns[n]); liveText(l) != liveText(want) {
		t.Fatalf("%s\nthe second way: %s\nof %d of\n%s", liveText(l), liveText(want), n, showUnit(u))
	}
}

// across asks Across twice, as lives does Lives.
func across(t *testing.T, u impl.Unit, n int) [][]int {
	t.Helper()
	full := roomy(u)
	was := deepText(full)
	lists := impl.Across(full, n)
	again := impl.Across(full, n)
	if deepText(full) != was {
		t.Errorf("something was written into\n%s", showUnit(u))
	}
	wantFresh(t, lists, full)
	wantFresh(t, lists, again)
	if fmt.Sprint(lists) != fmt.Sprint(again) {
		t.Errorf("the first time: %v\nthe second time: %v", lists, again)
	}
	if _, ok := impl.Lives(u, n); ok {
		wantAcrossSecond(t, u, n, lists)
	} else if len(lists) > 0 {
		t.Errorf("refused, but told %v", lists)
	}
	return lists
}

// wantAcrossSecond fails unless there is a list for each value, as the second way has it.
func wantAcrossSecond(t *testing.T, u impl.Unit, n int, lists [][]int) {
	t.Helper()
	if want := secondAcross(u.Fns[n]); fmt.Sprint(lists) != fmt.Sprint(want) {
		t.Fatalf("across: %v\nthe second way: %v\nof %d of\n%s", lists, want, n, showUnit(u))
	}
}

// liveText writes lists so that two are written alike just where they are the same; nil and empty lists are.
func liveText(l impl.Live) string {
	return fmt.Sprint("in ", l.In, " out ", l.Out)
}

// inNames writes values by the names that a text has for them.
func inNames(names map[string]int, values []int) string {
	text := ""
	for _, v := range values {
		text += " " + nameOf(names, v)
	}
	return text
}

// nameOf is the name of a number; #7 where it has none.
func nameOf(names map[string]int, n int) string {
	for _, name := range slices.Sorted(maps.Keys(names)) {
		if names[name] == n {
			return name
		}
	}
	return fmt.Sprint("#", n)
}

// wantLive fails unless in the first function of a text's unit this is alive: of each block, in order, a line
//
//	NAME IN .. > OUT ..
func wantLive(t *testing.T, text string, want ...string) {
	t.Helper()
	a := asmOf(text)
	l, ok := lives(t, a.unit, 0)
	if !ok {
		t.Fatalf("refused: %s", text)
	}
	var got []string
	for b := range a.unit.Fns[0].Blocks {
		got = append(got, nameOf(a.fns[0].blocks, b)+inNames(a.fns[0].vals, l.In[b])+" >"+inNames(a.fns[0].vals, l.Out[b]))
	}
	if !slices.Equal(got, want) {
		t.Errorf("%s\n%s\nwant:\n%s", text, strings.Join(got, "\n"), strings.Join(want, "\n"))
	}
	wantTurnedAlike(t, a.unit)
}

// wantAcross fails unless across the safe places of the first function of a text's unit this is needed: of each, in the
// order of their numbers, and of all else that something is told of, a line
//
//	NAME VALUE ..
func wantAcross(t *testing.T, text string, want ...string) {
	t.Helper()
	a := asmOf(text)
	lists := across(t, a.unit, 0)
	if len(lists) != len(a.unit.Fns[0].Vals) || !unitOk(t, a.unit) {
		t.Fatalf("%d lists of %s", len(lists), text)
	}
	var got []string
	for v, val := range a.unit.Fns[0].Vals {
		if len(lists[v]) > 0 || slices.Contains([]int{impl.VaNew, impl.VaMake, impl.VaCall}, val.Op) {
			got = append(got, nameOf(a.fns[0].vals, v)+inNames(a.fns[0].vals, lists[v]))
		}
	}
	if !slices.Equal(got, want) {
		t.Errorf("%s\n%s\nwant:\n%s", text, strings.Join(got, "\n"), strings.Join(want, "\n"))
	}
	wantTurnedAlike(t, a.unit)
}

// wantTurnedAlike fails unless, with the numbers of values and of blocks the other way round, the same is alive.
func wantTurnedAlike(t *testing.T, u impl.Unit) {
	t.Helper()
	vals, blocks := turnedNumbers(u), turnedBlocks(u)
	for n, f := range u.Fns {
		l, _ := lives(t, u, n)
		turned, _ := lives(t, vals, n)
		moved, _ := lives(t, blocks, n)
		for b := range f.Blocks {
			to := turnedBlock(b, len(f.Blocks))
			wantTurnedList(t, f, turned.In[b], l.In[b])
			wantTurnedList(t, f, turned.Out[b], l.Out[b])
			if !slices.Equal(moved.In[to], l.In[b]) || !slices.Equal(moved.Out[to], l.Out[b]) {
				t.Errorf("the block %d as %d: %s\nwant: %s", b, to, liveText(moved), liveText(l))
			}
		}
		lists, back := across(t, u, n), across(t, vals, n)
		if fmt.Sprint(across(t, blocks, n)) != fmt.Sprint(lists) {
			t.Errorf("with blocks the other way round: %v\nwant: %v", across(t, blocks, n), lists)
		}
		for v := range f.Vals {
			wantTurnedList(t, f, back[len(f.Vals)-1-v], lists[v])
		}
	}
}

// wantTurnedList fails unless a list is another one with the numbers of values the other way round.
func wantTurnedList(t *testing.T, f impl.Fn, got []int, list []int) {
	t.Helper()
	var want []int
	for _, v := range slices.Backward(list) {
		want = append(want, len(f.Vals)-1-v)
	}
	if !slices.Equal(got, want) {
		t.Errorf("with values the other way round: %v, want %v", got, want)
	}
}

// turnedBlocks is a unit whose blocks, but for the first ones, have their numbers the other way round.
func turnedBlocks(u impl.Unit) impl.Unit {
	u = roomy(u)
	for n := range u.Fns {
		f := &u.Fns[n]
		count := len(f.Blocks)
		blocks := make([]impl.Block, count)
		for b, block := range f.Blocks {
			for e := range block.Out {
				block.Out[e].To = turnedBlock(block.Out[e].To, count)
			}
			blocks[turnedBlock(b, count)] = block
		}
		f.Blocks = blocks
	}
	return u
}

func turnedBlock(b int, count int) int {
	if b == 0 {
		return 0
	}
	return count - b
}
