package tests

import (
	"fmt"
	"math"
	"slices"
	"testing"

	"loop.example/g00306/impl"
)

// graph is a function of blocks with edges to these alone.
func graph(out ...[]int) impl.Fn {
	var f impl.Fn
	for _, list := range out {
		var block impl.Block
		for _, to := range list {
			block.Out = append(block.Out, impl.Edge{To: to})
		}
		f.Blocks = append(f.Blocks, block)
	}
	return f
}

// chain is a graph of so many blocks in which each leads to the next one, the last one to none.
func chain(count int) impl.Fn {
	out := make([][]int, count)
	for b := range count - 1 {
		out[b] = []int{b + 1}
	}
	return graph(out...)
}

// chainAgainst is a chain that goes from block 0 to the last one, and from there down.
func chainAgainst(count int) impl.Fn {
	out := make([][]int, count)
	if count > 1 {
		out[0] = []int{count - 1}
	}
	for b := 2; b < count; b++ {
		out[b] = []int{b - 1}
	}
	return graph(out...)
}

// wantDoms fails unless Doms and the second way tell these.
func wantDoms(t *testing.T, f impl.Fn, want ...int) {
	t.Helper()
	if got := doms(t, f); !slices.Equal(got, want) {
		t.Errorf("%v of %+v, want %v", got, f.Blocks, want)
	}
	if got := secondDoms(f); !slices.Equal(got, want) {
		t.Errorf("the second way: %v of %+v, want %v", got, f.Blocks, want)
	}
}

// wantSecondDoms fails unless both ways tell the same.
func wantSecondDoms(t *testing.T, f impl.Fn) {
	t.Helper()
	if got, want := impl.Doms(f), secondDoms(f); !slices.Equal(got, want) {
		t.Fatalf("%v of %+v, want %v", got, f.Blocks, want)
	}
}

func TestDomsOfKnownGraphs(t *testing.T) {
	for _, x := range []struct {
		out  [][]int
		want []int
	}{
		{[][]int{{}}, []int{-1}},
		{[][]int{{0}}, []int{-1}},
		{[][]int{{0, 0}}, []int{-1}},
		{[][]int{{1}, {}}, []int{-1, 0}},
		{[][]int{{}, {}}, []int{-1, -1}},
		{[][]int{{1}, {0}}, []int{-1, 0}},
		{[][]int{{1}, {1}}, []int{-1, 0}},
		{[][]int{{1, 1}, {1, 1}}, []int{-1, 0}},
		{[][]int{{0, 1}, {0, 1}}, []int{-1, 0}},
		// Both branches, and where they meet.
		{[][]int{{1, 2}, {3}, {3}, {}}, []int{-1, 0, 0, 0}},
		{[][]int{{1, 2}, {3}, {}, {}}, []int{-1, 0, 0, 1}},
		{[][]int{{1, 2}, {3}, {3}, {4}, {}}, []int{-1, 0, 0, 0, 3}},
		{[][]int{{1}, {2, 3}, {4}, {4}, {}}, []int{-1, 0, 1, 1, 1}},
		{[][]int{{2}, {4}, {1, 3}, {4}, {}}, []int{-1, 2, 0, 2, 2}},
		// A block that two edges of one lead to.
		{[][]int{{1, 1}, {2, 2}, {}}, []int{-1, 0, 1}},
		// Blocks that are not reached, that lead to ones that are, and to each other.
		{[][]int{{1}, {}, {1}}, []int{-1, 0, -1}},
		{[][]int{{1}, {3}, {3}, {}}, []int{-1, 0, -1, 1}},
		{[][]int{{2}, {2, 3}, {}, {1, 0}}, []int{-1, -1, 0, -1}},
		{[][]int{{}, {2}, {1}}, []int{-1, -1, -1}},
		// Loops: one, with a way out; within another one; with two ways in.
		{[][]int{{1}, {2, 3}, {1}, {}}, []int{-1, 0, 1, 1}},
		{[][]int{{1}, {2, 6}, {3}, {4, 5}, {3}, {1}, {}}, []int{-1, 0, 1, 2, 3, 3, 1}},
		{[][]int{{1, 2}, {2}, {1}}, []int{-1, 0, 0}},
		{[][]int{{1, 2}, {2}, {1, 3}, {}}, []int{-1, 0, 0, 2}},
		{[][]int{{1, 2}, {3}, {4}, {4, 5}, {3}, {}}, []int{-1, 0, 0, 0, 0, 3}},
		{[][]int{{1, 3}, {2}, {3}, {2}}, []int{-1, 0, 0, 0}},
		// One that takes several turns: 5, 4, 3 each wait for what comes behind them.
		{[][]int{{4, 5}, {2}, {1, 3}, {2}, {1}, {2, 3}}, []int{-1, 0, 0, 0, 0, 0}},
		{[][]int{{5}, {2}, {1, 3}, {2}, {2, 3}, {4, 1}}, []int{-1, 5, 5, 5, 5, 0}},
		// All lead to all.
		{[][]int{{0, 1, 2, 3}, {0, 1, 2, 3}, {0, 1, 2, 3}, {0, 1, 2, 3}}, []int{-1, 0, 0, 0}},
		// A ladder, and ways that skip.
		{[][]int{{1, 2}, {3}, {3}, {4, 5}, {6}, {6}, {7}, {}}, []int{-1, 0, 0, 0, 3, 3, 3, 6}},
		{[][]int{{1, 3}, {2}, {3}, {4}, {}}, []int{-1, 0, 1, 0, 3}},
	} {
		wantDoms(t, graph(x.out...), x.want...)
	}
}

func TestDomsOfNoBlock(t *testing.T) {
	wantDoms(t, impl.Fn{})
	wantDoms(t, impl.Fn{Params: []impl.Ty{tyInt()}, Res: tyInt(), Vals: make([]impl.Val, 3), Blocks: []impl.Block{}})
}

func TestDomsAtTheLimit(t *testing.T) {
	for _, count := range []int{2, 3, impl.MaxBlocks - 1, impl.MaxBlocks} {
		ahead, against := []int{-1}, []int{-1}
		for b := 1; b < count; b++ {
			ahead = append(ahead, b-1)
			against = append(against, (b+1)%count)
		}
		wantDoms(t, chain(count), ahead...)
		wantDoms(t, chainAgainst(count), against...)
	}
	for _, count := range []int{impl.MaxBlocks + 1, impl.MaxBlocks + 2, 5 * impl.MaxBlocks} {
		wantDoms(t, chain(count))
		wantDoms(t, chainAgainst(count))
		wantDoms(t, graph(make([][]int, count)...))
	}
	none := make([]int, impl.MaxBlocks)
	for b := range none {
		none[b] = -1
	}
	wantDoms(t, graph(make([][]int, impl.MaxBlocks)...), none...)
}

// TestDomsOfEdgesToNone: one is enough, from whatever block.
func TestDomsOfEdgesToNone(t *testing.T) {
	for _, to := range []int{-1, -2, 4, 5, math.MinInt, math.MaxInt} {
		wantDoms(t, graph([]int{1, to}, []int{2}, nil, []int{1}))
		wantDoms(t, graph([]int{to, 1}, []int{2}, nil, []int{1}))
		wantDoms(t, graph([]int{1}, []int{2}, []int{to}, []int{1}))
		wantDoms(t, graph([]int{1}, []int{2}, nil, []int{1, to}))
		wantDoms(t, graph([]int{1}, []int{2}, nil, []int{to}))
	}
	wantDoms(t, graph([]int{1}))
	wantDoms(t, graph([]int{-1}))
	// The last one there is.
	wantDoms(t, graph([]int{1}, []int{2}, nil, []int{3}), -1, 0, 1, -1)
	// At the limit, from the last block, reached and not.
	f := chain(impl.MaxBlocks)
	f.Blocks[impl.MaxBlocks-1].Out = []impl.Edge{{To: impl.MaxBlocks}}
	wantDoms(t, f)
	f.Blocks[impl.MaxBlocks-2].Out = nil
	wantDoms(t, f)
}

// TestDomsLooksAtEdgesAlone: whatever else stands in a function plays no part.
func TestDomsLooksAtEdgesAlone(t *testing.T) {
	f := graph([]int{1, 2}, []int{3}, []int{3}, []int{1, 4}, nil, []int{4})
	want := []int{-1, 0, 0, 0, 3, -1}
	wantDoms(t, f, want...)
	for _, term := range []int{impl.TmJump, impl.TmIf, impl.TmReturn, impl.TmPanic, -1, 4, math.MinInt, math.MaxInt} {
		for b := range f.Blocks {
			f.Blocks[b].Term = term
		}
		wantDoms(t, f, want...)
	}
	for b := range f.Blocks {
		f.Blocks[b].Args = []int{-1, 7}
		f.Blocks[b].Params = []int{b, b, -9}
		f.Blocks[b].Code = []int{3000, 1}
		for e := range f.Blocks[b].Out {
			f.Blocks[b].Out[e].Args = []int{math.MaxInt}
		}
	}
	f.Vals = make([]impl.Val, impl.MaxVals+1)
	f.Vals[0] = impl.Val{Op: 99, N: -1, Ty: impl.Ty{Kind: 7}, Args: []int{-1}}
	f.Params, f.Res = []impl.Ty{{Kind: -1}}, impl.Ty{Kind: 9}
	wantDoms(t, f, want...)
}

// TestDomsOfAllSmallGraphs are all of up to 4 blocks, whatever edges these have.
func TestDomsOfAllSmallGraphs(t *testing.T) {
	for count := 1; count <= 4; count++ {
		for code := range 1 << (count * count) {
			out := make([][]int, count)
			for edge := range count * count {
				if code>>edge&1 == 1 {
					out[edge/count] = append(out[edge/count], edge%count)
				}
			}
			wantSecondDoms(t, graph(out...))
		}
	}
}

// madeGraph is one of so many blocks, with up to so many edges of each.
func madeGraph(m *maker, count int, most int) impl.Fn {
	out := make([][]int, count)
	for b := range out {
		for range m.pick(most + 1) {
			out[b] = append(out[b], m.pick(count))
		}
		// Mostly a way goes on, so that many blocks are reached.
		if b+1 < count && m.pick(3) > 0 {
			out[b] = append(out[b], b+1)
		}
	}
	return graph(out...)
}

func TestDomsOfManyGraphs(t *testing.T) {
	m := newMaker(spread(30000), 0)
	for range 4000 {
		wantSecondDoms(t, madeGraph(m, 1+m.pick(14), 1+m.pick(3)))
	}
	for range 60 {
		wantSecondDoms(t, madeGraph(m, 20+m.pick(60), 1+m.pick(2)))
	}
	for range 4 {
		wantSecondDoms(t, madeGraph(m, impl.MaxBlocks-m.pick(3), 1+m.pick(2)))
	}
}

// upTo are the numbers 0 .. count - 1.
func upTo(count int) []int {
	var list []int
	for n := range count {
		list = append(list, n)
	}
	return list
}

// TestDomsOfGreatGraphs are of MaxBlocks blocks each, of known shapes.
func TestDomsOfGreatGraphs(t *testing.T) {
	shapes := map[string]func(b int, count int) []int{
		"loops within loops":   func(b int, count int) []int { return []int{min(b+1, count-1), count - 1 - b} },
		"loops with two ways":  func(b int, count int) []int { return []int{min(b+1, count-1), min(b+2, count-1), max(b-1, 1)} },
		"back by one and two":  func(b int, count int) []int { return []int{max(b-1, 1), max(b-2, 1), (b + count/2) % count} },
		"a ladder":             func(b int, count int) []int { return []int{min(b+1, count-1), min(b+2, count-1)} },
		"back to each":         func(b int, count int) []int { return []int{min(b+1, count-1), b / 2} },
		"a tree":               func(b int, count int) []int { return []int{min(2*b+1, count-1), min(2*b+2, count-1)} },
		"all to the first":     func(b int, count int) []int { return []int{min(b+1, count-1), 0, 1} },
		"against, with skips":  func(b int, count int) []int { return []int{(b + count - 1) % count, (b + count - 7) % count} },
		"in, from the end":     func(b int, count int) []int { return []int{(b + count - 1) % count, count / 2} },
		"far and near":         func(b int, count int) []int { return []int{(b*7 + 1) % count, (b*b + 3) % count} },
		"all edges that go on": func(b int, count int) []int { return upTo(count)[b+1:] },
		"all edges":            func(b int, count int) []int { return upTo(count) },
	}
	for what, shape := range shapes {
		out := make([][]int, impl.MaxBlocks)
		for b := range out {
			out[b] = shape(b, impl.MaxBlocks)
		}
		t.Run(what, func(t *testing.T) { wantSecondDoms(t, graph(out...)) })
	}
}

// TestNearestIsOnAllWaysAhead is the promise: the nearest block of one is on all ways to each, reached itself, from which
// an edge leads there.
func TestNearestIsOnAllWaysAhead(t *testing.T) {
	m := newMaker(spread(30000), 77)
	looked := 0
	for round := range 1500 {
		f := madeGraph(m, 2+m.pick(20), 1+m.pick(3))
		if round%5 == 0 {
			f = structuredGraph(m)
		}
		looked += wantNearestAhead(t, f)
	}
	for _, f := range []impl.Fn{chain(impl.MaxBlocks), chainAgainst(impl.MaxBlocks), madeGraph(m, impl.MaxBlocks, 1)} {
		looked += wantNearestAhead(t, f)
	}
	if looked < 10000 {
		t.Errorf("only %d edges were looked at", looked)
	}
}

// structuredGraph is that of a function with loops and branches, of up to two edges a block.
func structuredGraph(m *maker) impl.Fn {
	u := newUnitMaker(m.numbers, m.pick(20000)).unit()
	return u.Fns[m.pick(len(u.Fns))]
}

// wantNearestAhead tells how many edges it looked at. A way past the nearest block would be seen by leaving that out.
func wantNearestAhead(t *testing.T, f impl.Fn) int {
	t.Helper()
	nearest := doms(t, f)
	if len(nearest) != len(f.Blocks) {
		t.Fatalf("%v of %d blocks", nearest, len(f.Blocks))
	}
	reached := reachedWithout(f.Blocks, -1)
	looked := 0
	for b, up := range nearest {
		if reached[b] != (up >= 0) && b > 0 || up == b || b == 0 && up != -1 {
			t.Fatalf("block %d: the nearest is %d of %+v", b, up, f.Blocks)
		}
	}
	for from, block := range f.Blocks {
		for _, e := range block.Out {
			if !reached[from] || e.To == 0 {
				continue
			}
			looked++
			up := nearest[e.To]
			if up != from && reachedWithout(f.Blocks, up)[from] {
				t.Fatalf("from %d to %d a way leads past %d: %+v", from, e.To, up, f.Blocks)
			}
		}
	}
	return looked
}

func TestDomsIsNew(t *testing.T) {
	f := graph([]int{1, 2}, []int{3}, []int{3}, nil)
	a, b := impl.Doms(f), impl.Doms(f)
	wantFresh(t, a, b)
	a[1] = 9
	if c := fmt.Sprint(impl.Doms(f), b); c != "[-1 0 0 0] [-1 0 0 0]" {
		t.Error(c)
	}
}
