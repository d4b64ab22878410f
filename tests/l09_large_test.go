package tests

import (
	"fmt"
	"slices"
	"strings"
	"testing"

	"loop.example/g00306/impl"
)

// withUse is a function of blocks alone, with a value that the first block makes and one block puts out.
func withUse(f impl.Fn, at int) impl.Unit {
	f = linked(f)
	f.Vals = []impl.Val{{Op: impl.VaRead, Ty: tyInt()}, {Op: impl.VaPrint, Args: []int{0}}}
	f.Blocks[0].Code = []int{0}
	f.Blocks[at].Code = append(f.Blocks[at].Code, 1)
	for b := range f.Blocks {
		if len(f.Blocks[b].Out) == 2 {
			f.Blocks[b].Term, f.Blocks[b].Args = impl.TmIf, []int{0}
		}
	}
	return impl.Unit{Fns: []impl.Fn{f}}
}

// TestLongWaysAlive: as many blocks as there may be, by their numbers and against them.
func TestLongWaysAlive(t *testing.T) {
	t.Parallel()
	count := impl.MaxBlocks
	for what, u := range map[string]impl.Unit{"in order": withUse(chain(count), count-1), "against it": withUse(chainAgainst(count), 1)} {
		l, ok := lives(t, u, 0)
		if !ok || len(l.In) != count {
			t.Fatalf("%s: %v, %d lists", what, ok, len(l.In))
		}
		alive := 0
		for b := range count {
			alive += len(l.In[b]) + len(l.Out[b])
		}
		if alive != 2*(count-1) {
			t.Errorf("%s: %d, want %d", what, alive, 2*(count-1))
		}
	}
}

// TestManyLooksAlive: long ways back, each loop's edge leading to a block far ahead, in whatever order blocks are numbered.
func TestManyLooksAlive(t *testing.T) {
	t.Parallel()
	numbers := spread(4000)
	m := unitMaker{maker: maker{numbers: numbers}}
	for _, count := range []int{5, 40, impl.MaxBlocks} {
		out := make([][]int, count)
		for b := range count - 1 {
			out[b] = []int{b + 1}
			if b > 1 {
				out[b] = append(out[b], 1+(b*7)%(b-1))
			}
		}
		for _, use := range []int{1, 2, count / 2, count - 2} {
			u := withUse(graph(out...), use)
			wantLivesOnly(t, u)
			wantLivesOnly(t, turnedBlocks(u))
			m.u, m.at = u, 0
			m.shuffle()
			wantLivesOnly(t, m.u)
		}
	}
}

// wantLivesOnly is lives of the first function, without a look at the memory.
func wantLivesOnly(t *testing.T, u impl.Unit) {
	t.Helper()
	l, ok := impl.Lives(u, 0)
	if !ok {
		t.Fatalf("refused:\n%s", showUnit(u))
	}
	wantLivesSecond(t, u, 0, l)
}

// TestGraphsAlive: the ways of blocks made of numbers, with a value that one or two of them put out.
func TestGraphsAlive(t *testing.T) {
	t.Parallel()
	numbers := spread(30000)
	m := newMaker(numbers, 5)
	for round := range 400 {
		u := newUnitMaker(numbers, round*31)
		u.u.Fns = []impl.Fn{{}}
		u.ways(2 + m.pick(40))
		blocks := u.fn().Blocks
		wantLivesOnly(t, withUse(impl.Fn{Blocks: blocks}, 1+m.pick(len(blocks)-1)))
	}
}

// TestManyValuesAlive: as many values as there may be, all alive; each number around the bounds of machine words alone.
func TestManyValuesAlive(t *testing.T) {
	t.Parallel()
	for _, count := range []int{1, 31, 32, 33, 63, 64, 65, 127, 128, 129, 1000, impl.MaxVals / 2} {
		f := impl.Fn{Blocks: []impl.Block{{Out: []impl.Edge{{To: 2}}}, {Term: impl.TmReturn}, {Out: []impl.Edge{{To: 1}}}}}
		for n := range count {
			f.Vals = append(f.Vals, impl.Val{Op: impl.VaRead, Ty: tyInt()})
			f.Blocks[0].Code = append(f.Blocks[0].Code, n)
		}
		for n := range count {
			f.Vals = append(f.Vals, impl.Val{Op: impl.VaPrint, Args: []int{count - 1 - n}})
			f.Blocks[1].Code = append(f.Blocks[1].Code, count+n)
		}
		l, ok := impl.Lives(impl.Unit{Fns: []impl.Fn{f}}, 0)
		all := upTo(count)
		if !ok || len(l.In[0]) != 0 || !slices.Equal(l.Out[0], all) || !slices.Equal(l.In[2], all) || !slices.Equal(l.Out[2], all) || !slices.Equal(l.In[1], all) || len(l.Out[1]) != 0 {
			t.Errorf("of %d: %v, %s", count, ok, liveText(l))
		}
	}
	for _, count := range []int{64, 65, 128, impl.MaxVals - 1} {
		for _, one := range []int{0, 1, 62, 63, count - 1} {
			f := manyVals(count)
			f.Vals = append(f.Vals, impl.Val{Op: impl.VaPrint, Args: []int{one}})
			f.Blocks[0] = impl.Block{Code: f.Blocks[0].Code, Out: []impl.Edge{{To: 1}}}
			f.Blocks = append(f.Blocks, impl.Block{Code: []int{count}, Term: impl.TmReturn})
			if l, ok := impl.Lives(impl.Unit{Fns: []impl.Fn{f}}, 0); !ok || liveText(l) != fmt.Sprintf("in [[] [%d]] out [[%d] []]", one, one) {
				t.Errorf("%d of %d: %v, %s", one, count, ok, liveText(l))
			}
		}
	}
}

// TestManySafePlaces: many values are needed across many places, fewer with each.
func TestManySafePlaces(t *testing.T) {
	t.Parallel()
	const count = impl.MaxVals / 3
	var text strings.Builder
	text.WriteString("fn main")
	for n := range count {
		fmt.Fprintf(&text, "; x%d = read", n)
	}
	for n := range count {
		fmt.Fprintf(&text, "; call none; print x%d", n)
	}
	u := unitOf(text.String() + "; return; fn none; return")
	lists := impl.Across(u, 0)
	if len(lists) != 3*count {
		t.Fatalf("%d lists", len(lists))
	}
	for v, list := range lists {
		var want []int
		if n := (v - count) / 2; v >= count && (v-count)%2 == 0 {
			want = upTo(count)[n:]
		}
		if !slices.Equal(list, want) {
			t.Fatalf("across %d: %v, want %v", v, list, want)
		}
	}
	wantFresh(t, lists, u)
}

// TestAllAtOnceAlive: all blocks and all values there may be, each value alive in nearly all blocks.
func TestAllAtOnceAlive(t *testing.T) {
	t.Parallel()
	f := linked(chainAgainst(impl.MaxBlocks))
	count := impl.MaxVals / 2
	for n := range count {
		f.Vals = append(f.Vals, impl.Val{Op: impl.VaRead, Ty: tyInt()})
		f.Blocks[0].Code = append(f.Blocks[0].Code, n)
	}
	for n := range count {
		f.Vals = append(f.Vals, impl.Val{Op: impl.VaPrint, Args: []int{n}})
		f.Blocks[1].Code = append(f.Blocks[1].Code, count+n)
	}
	// Each block but the first and the last one leads back, too, to one that is many ahead of it.
	for b := 2; b < impl.MaxBlocks; b++ {
		if back := b + impl.MaxBlocks/2; back < impl.MaxBlocks {
			f.Blocks[b].Out = append(f.Blocks[b].Out, impl.Edge{To: back})
			f.Blocks[b].Term, f.Blocks[b].Args = impl.TmIf, []int{0}
		}
	}
	l, ok := impl.Lives(impl.Unit{Fns: []impl.Fn{f}}, 0)
	if !ok {
		t.Fatal("refused")
	}
	for b := 1; b < impl.MaxBlocks; b++ {
		if !slices.Equal(l.In[b], upTo(count)) || b > 1 && !slices.Equal(l.Out[b], upTo(count)) {
			t.Fatalf("the block %d: %d in, %d out", b, len(l.In[b]), len(l.Out[b]))
		}
	}
	if len(l.In[0]) != 0 || len(l.Out[0]) != count || len(l.Out[1]) != 0 {
		t.Errorf("%d in, %d out of the first block, %d out of the last one", len(l.In[0]), len(l.Out[0]), len(l.Out[1]))
	}
}
