package tests

import (
	"slices"

	"loop.example/g00306/impl"
)

// standing is where a value of a function is made: in which block, and at which place of its Code, -1 of its Params.
type standing struct {
	block, at int
}

func standings(f impl.Fn) []standing {
	list := make([]standing, len(f.Vals))
	for b, block := range f.Blocks {
		for _, v := range block.Params {
			list[v] = standing{b, -1}
		}
		for at, v := range block.Code {
			list[v] = standing{b, at}
		}
	}
	return list
}

// usesOf are the values that a block uses, from a place of its Code on, its end with them.
func usesOf(f impl.Fn, b int, from int) []int {
	block := f.Blocks[b]
	list := slices.Clone(block.Args)
	for _, v := range block.Code[from:] {
		list = append(list, f.Vals[v].Args...)
	}
	for _, e := range block.Out {
		list = append(list, e.Args...)
	}
	return list
}

// secondLives is Lives in another way than the program's: value by value, from each block that uses it back over the edges
// that lead there, up to the one that makes it. Nothing is put in that no way asks for.
func secondLives(f impl.Fn) impl.Live {
	count := len(f.Blocks)
	l := impl.Live{In: make([][]int, count), Out: make([][]int, count)}
	ahead := make([][]int, count)
	users := make([][]int, len(f.Vals))
	for b, block := range f.Blocks {
		for _, e := range block.Out {
			ahead[e.To] = append(ahead[e.To], b)
		}
		for _, v := range usesOf(f, b, 0) {
			users[v] = append(users[v], b)
		}
	}
	made := standings(f)
	for v := range f.Vals {
		seen := make([]bool, count)
		for todo := users[v]; len(todo) > 0; {
			b := todo[0]
			todo = todo[1:]
			if seen[b] || b == made[v].block {
				continue
			}
			seen[b] = true
			l.In[b] = append(l.In[b], v)
			todo = append(slices.Clone(todo), ahead[b]...)
		}
		for b, block := range f.Blocks {
			if slices.ContainsFunc(block.Out, func(e impl.Edge) bool { return seen[e.To] }) {
				l.Out[b] = append(l.Out[b], v)
			}
		}
	}
	return l
}

// secondAcross is Across in another way than the program's: each safe place by itself, and each value by itself.
func secondAcross(f impl.Fn) [][]int {
	lists := make([][]int, len(f.Vals))
	l := secondLives(f)
	made := standings(f)
	for safe, val := range f.Vals {
		if !slices.Contains([]int{impl.VaNew, impl.VaMake, impl.VaCall}, val.Op) {
			continue
		}
		b, at := made[safe].block, made[safe].at
		needed := append(usesOf(f, b, at+1), l.Out[b]...)
		for v, from := range made {
			isThere := from.block != b || from.at < at
			if isThere && slices.Contains(needed, v) {
				lists[safe] = append(lists[safe], v)
			}
		}
	}
	return lists
}

// sentenceFault holds In and Out against the two sentences of the chapter, block by block; nothing where they hold.
func sentenceFault(f impl.Fn, l impl.Live) string {
	if len(l.In) != len(f.Blocks) || len(l.Out) != len(f.Blocks) {
		return "not a list for each block"
	}
	for b, block := range f.Blocks {
		var following []int
		for _, e := range block.Out {
			following = append(following, l.In[e.To]...)
		}
		if !slices.Equal(l.Out[b], asSet(following)) {
			return "Out is not what is in In of those that follow"
		}
		needed := asSet(append(usesOf(f, b, 0), l.Out[b]...))
		needed = slices.DeleteFunc(needed, func(v int) bool { return slices.Contains(block.Params, v) || slices.Contains(block.Code, v) })
		if !slices.Equal(l.In[b], needed) {
			return "In is not what is used or in Out, but for what is made"
		}
	}
	if len(l.In[0]) != 0 {
		return "something is in In of block 0"
	}
	return ""
}

// asSet is a list in ascending order, without what stands there twice.
func asSet(list []int) []int {
	list = slices.Clone(list)
	slices.Sort(list)
	return slices.Compact(list)
}
