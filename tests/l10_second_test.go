package tests

import (
	"cmp"
	"slices"

	"loop.example/g00306/impl"
)

// placesOf are the places of a function in order: of each block its beginning, which is its place -1, its Code, its end.
func placesOf(f impl.Fn) []standing {
	var list []standing
	for b, block := range f.Blocks {
		for at := -1; at <= len(block.Code); at++ {
			list = append(list, standing{b, at})
		}
	}
	return list
}

// stay is from which place to which one a value keeps its home.
type stay struct {
	from, to int
}

// secondSpans finds spans in another way than the program's: value by value, and of each place by itself whether the
// chapter names it.
func secondSpans(f impl.Fn) []stay {
	places, l, made := placesOf(f), secondLives(f), standings(f)
	spans := make([]stay, len(f.Vals))
	for v := range f.Vals {
		begin := slices.Index(places, made[v])
		spans[v] = stay{begin, begin}
		for n, p := range places {
			if isIn(l, p, v) {
				spans[v].from = min(spans[v].from, n)
			}
			if isIn(l, p, v) || isUsedAt(f, l, p, v) {
				spans[v].to = max(spans[v].to, n)
			}
		}
	}
	return spans
}

// isIn tells whether a place is the beginning of a block in whose In a value is.
func isIn(l impl.Live, p standing, v int) bool {
	return p.at < 0 && slices.Contains(l.In[p.block], v)
}

// isUsedAt tells whether a place is a value that uses this one, or an end of a block that does or in whose Out it is.
func isUsedAt(f impl.Fn, l impl.Live, p standing, v int) bool {
	block := f.Blocks[p.block]
	switch {
	case p.at < 0:
		return false
	case p.at < len(block.Code):
		return slices.Contains(f.Vals[block.Code[p.at]].Args, v)
	}
	return slices.Contains(usesOf(f, p.block, len(block.Code)), v) || slices.Contains(l.Out[p.block], v)
}

// crossers are the values that are in an Across.
func crossers(f impl.Fn) []int {
	return asSet(slices.Concat(secondAcross(f)...))
}

func hasType(f impl.Fn, v int) bool { return f.Vals[v].Ty != impl.Ty{} }

// secondHomes is Homes in another way than the program's, of a function that is well: of each register all that have it
// are asked.
func secondHomes(f impl.Fn) ([]int, bool) {
	spans, across := secondSpans(f), crossers(f)
	order := slices.DeleteFunc(upTo(len(f.Vals)), func(v int) bool { return !hasType(f, v) })
	slices.SortStableFunc(order, func(v, w int) int { return cmp.Compare(spans[v].from, spans[w].from) })
	homes := slices.Repeat([]int{-1}, len(f.Vals))
	slot := impl.Regs
	for n, v := range order {
		home := 0
		for slices.ContainsFunc(order[:n], func(w int) bool { return homes[w] == home && spans[w].to >= spans[v].from }) {
			home++
		}
		if home >= impl.Regs || slices.Contains(across, v) {
			home = slot
			slot++
		}
		homes[v] = home
	}
	if slot > impl.Regs+impl.MaxSlots {
		return nil, false
	}
	return homes, true
}

// gathering is a place with the values that may not have like homes there.
type gathering struct {
	where  string
	values []int
}

// gatherings are those of each place that the chapter names, each found by itself.
func gatherings(f impl.Fn) []gathering {
	var list []gathering
	l := secondLives(f)
	for b, block := range f.Blocks {
		last := len(block.Code)
		list = append(list, gathering{"at the beginning", append(neededAt(f, l, b, 0), block.Params...)})
		for at, v := range block.Code {
			list = append(list, gathering{"ahead of a value", neededAt(f, l, b, at)}, gathering{"behind a value", append(neededAt(f, l, b, at+1), v)})
		}
		list = append(list, gathering{"at the end", neededAt(f, l, b, last)})
	}
	for n := range list {
		list[n].values = asSet(list[n].values)
	}
	return list
}

// neededAt are the values that are there ahead of a place of a block's Code, and that are used from there on or in Out.
func neededAt(f impl.Fn, l impl.Live, b int, at int) []int {
	needed := asSet(append(usesOf(f, b, at), l.Out[b]...))
	return slices.DeleteFunc(needed, func(v int) bool { return slices.Contains(f.Blocks[b].Code[at:], v) })
}

// lodging is what HomesOk asks of a function, found in another way than the program's.
type lodging struct {
	f       impl.Fn
	across  []int
	meeting []gathering
}

func newLodging(f impl.Fn) lodging {
	return lodging{f, crossers(f), gatherings(f)}
}

// fault tells what is wrong with homes; nothing where they are well.
func (g lodging) fault(homes []int) string {
	if len(homes) != len(g.f.Vals) {
		return "not a home for each value"
	}
	for v, home := range homes {
		if home < -1 || home > impl.Regs+impl.MaxSlots-1 {
			return "no home"
		}
		if hasType(g.f, v) == (home == -1) {
			return "none just where there is no type"
		}
	}
	for _, v := range g.across {
		if homes[v] < impl.Regs {
			return "a register across a safe place"
		}
	}
	for _, place := range g.meeting {
		for n, v := range place.values {
			if hasType(g.f, v) && slices.ContainsFunc(place.values[:n], func(w int) bool { return homes[w] == homes[v] }) {
				return place.where
			}
		}
	}
	return ""
}

// homesFault is lodging.fault of a function of a unit, which may both be none.
func homesFault(u impl.Unit, n int, homes []int) string {
	if faultOf(u) != "" || n < 0 || n >= len(u.Fns) {
		return "no function of a unit"
	}
	return newLodging(u.Fns[n]).fault(homes)
}
