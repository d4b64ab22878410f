package tests

import (
	"fmt"
	"math"
	"slices"
	"strings"
	"testing"

	"loop.example/g00306/impl"
)

// edited is a text's unit with something changed.
func edited(text string, edit func(u *impl.Unit)) impl.Unit {
	u := unitOf(text)
	edit(&u)
	return u
}

// TestConstantsOfUnits: the numbers as the document has them.
func TestConstantsOfUnits(t *testing.T) {
	ops := []int{
		impl.VaPhi, impl.VaInt, impl.VaFloat, impl.VaNil, impl.VaArith, impl.VaDec, impl.VaSame, impl.VaToInt, impl.VaToFloat, impl.VaLen, impl.VaNew, impl.VaMake,
		impl.VaNilCheck, impl.VaIndexCheck, impl.VaZeroCheck, impl.VaMakeCheck, impl.VaLoad, impl.VaStore, impl.VaGet, impl.VaPut, impl.VaRead, impl.VaPrint, impl.VaCall,
	}
	if !slices.Equal(ops, upTo(23)) {
		t.Error(ops)
	}
	if terms := []int{impl.TmJump, impl.TmIf, impl.TmReturn, impl.TmPanic}; !slices.Equal(terms, upTo(4)) {
		t.Error(terms)
	}
	if impl.MaxVals != 3000 || impl.MaxBlocks != 400 {
		t.Error(impl.MaxVals, impl.MaxBlocks)
	}
}

func TestMostStructsOfUnits(t *testing.T) {
	for _, x := range []struct {
		structs, fields int
		want            bool
	}{
		{0, 0, true}, {1, 0, true}, {1, impl.MaxFields, true}, {1, impl.MaxFields + 1, false}, {impl.MaxStructs, impl.MaxFields, true},
		{impl.MaxStructs + 1, 0, false}, {impl.MaxStructs + 1, 1, false}, {impl.MaxStructs, impl.MaxFields + 1, false}, {50, 50, false},
	} {
		text := strings.Repeat("struct"+strings.Repeat(" int", x.fields)+"\n", x.structs) + "fn main; return"
		wantUnit(t, fmt.Sprint(x), unitOf(text), x.want)
	}
	// The last one alone has one too many.
	wantUnits(t, "", false, "struct int; struct; struct float float float float float int; fn main; return")
}

func TestMostFns(t *testing.T) {
	for count := range impl.MaxFuncs + 3 {
		text := ""
		for n := range count {
			text += fmt.Sprintf("fn f%d a:int ; return\n", n)
		}
		wantUnit(t, fmt.Sprint(count, " and main"), unitOf(text+"fn main; return"), count+1 <= impl.MaxFuncs)
		wantUnit(t, fmt.Sprint("main and ", count), unitOf("fn main; return\n"+text), count+1 <= impl.MaxFuncs)
	}
}

func TestMostParamsOfFns(t *testing.T) {
	for count := range impl.MaxParams + 3 {
		text := "fn f"
		for n := range count {
			text += fmt.Sprintf(" p%d:int", n)
		}
		wantUnit(t, fmt.Sprint(count, " Params"), unitOf(text+"; return; fn main; return"), count <= impl.MaxParams)
	}
	// The limit is that of Params of functions, not of blocks.
	wantUnits(t, "", true, "fn main; x = read; jump b x x x x x x; b p:int q:int r:int s:int u:int v:int :; return")
}

// manyVals is a function with so many values, which all stand in its first block.
func manyVals(count int) impl.Fn {
	f := impl.Fn{Blocks: []impl.Block{{Term: impl.TmReturn}}}
	for n := range count {
		f.Vals = append(f.Vals, impl.Val{Op: impl.VaInt, N: n, Ty: tyInt()})
		f.Blocks[0].Code = append(f.Blocks[0].Code, n)
	}
	return f
}

func TestMostVals(t *testing.T) {
	for _, count := range []int{0, 1, impl.MaxVals - 1, impl.MaxVals, impl.MaxVals + 1, 2 * impl.MaxVals} {
		what := fmt.Sprint(count, " values")
		wantUnit(t, what, impl.Unit{Fns: []impl.Fn{manyVals(count)}}, count <= impl.MaxVals)
		wantUnit(t, what+" in the second", impl.Unit{Fns: []impl.Fn{manyVals(3), manyVals(count)}}, count <= impl.MaxVals)
	}
	// They may all be parameters.
	for _, count := range []int{impl.MaxVals - 1, impl.MaxVals} {
		f := impl.Fn{Vals: []impl.Val{{Op: impl.VaInt, Ty: tyInt()}}, Blocks: []impl.Block{{Code: []int{0}, Out: []impl.Edge{{To: 1}}}, {Term: impl.TmReturn}}}
		for n := range count {
			f.Vals = append(f.Vals, impl.Val{Ty: tyInt()})
			f.Blocks[0].Out[0].Args = append(f.Blocks[0].Out[0].Args, 0)
			f.Blocks[1].Params = append(f.Blocks[1].Params, n+1)
		}
		wantUnit(t, fmt.Sprint(count, " parameters"), impl.Unit{Fns: []impl.Fn{f}}, count+1 <= impl.MaxVals)
	}
	u := impl.Unit{Fns: []impl.Fn{manyVals(impl.MaxVals)}}
	if o := runWhole(t, u, nil); outcomeText(o) != "exit in 3001:" {
		t.Error(outcomeText(o))
	}
}

// linked is a function of a chain of blocks, the last of which returns.
func linked(f impl.Fn) impl.Fn {
	for b := range f.Blocks {
		if len(f.Blocks[b].Out) == 0 {
			f.Blocks[b].Term = impl.TmReturn
		}
	}
	return f
}

func TestMostBlocks(t *testing.T) {
	for _, count := range []int{1, 2, impl.MaxBlocks - 1, impl.MaxBlocks, impl.MaxBlocks + 1, 3 * impl.MaxBlocks} {
		for what, f := range map[string]impl.Fn{"in order": linked(chain(count)), "against it": linked(chainAgainst(count))} {
			what = fmt.Sprint(count, " blocks ", what)
			u := impl.Unit{Fns: []impl.Fn{f}}
			wantUnit(t, what, u, count <= impl.MaxBlocks)
			wantUnit(t, what+", called", impl.Unit{Fns: []impl.Fn{f, linked(chain(1))}, Main: 1}, count <= impl.MaxBlocks)
			if o := runUnit(t, u, nil, 5000); count <= impl.MaxBlocks && outcomeText(o) != fmt.Sprintf("exit in %d:", count) {
				t.Errorf("%s: %s", what, outcomeText(o))
			}
		}
	}
	wantUnit(t, "no block", impl.Unit{Fns: []impl.Fn{{}}}, false)
	wantUnit(t, "no block in another", impl.Unit{Fns: []impl.Fn{linked(chain(1)), {}}}, false)
	wantUnit(t, "no block, but values", impl.Unit{Fns: []impl.Fn{{Vals: []impl.Val{{Op: impl.VaRead, Ty: tyInt()}}}}}, false)
}

func TestMainOfUnits(t *testing.T) {
	text := "fn f a:int; return; fn g > int; x = int 1; return x; fn h a:int > int; return a; fn main; return; fn other; return"
	wants := map[int]bool{3: true, 4: true}
	for _, n := range []int{math.MinInt, -2, -1, 0, 1, 2, 3, 4, 5, 6, math.MaxInt} {
		wantUnit(t, fmt.Sprint("main is ", n), edited(text, func(u *impl.Unit) { u.Main = n }), wants[n])
	}
	wantUnit(t, "the zero unit", impl.Unit{}, false)
	wantUnit(t, "no function, structs alone", impl.Unit{Structs: [][]impl.Ty{{tyInt()}}}, false)
	for _, n := range []int{-1, 1} {
		wantUnit(t, "no function", impl.Unit{Main: n}, false)
	}
}

// noTypes are those that are none over two structs.
func noTypes() []impl.Ty {
	list := []impl.Ty{{N: 1}, {N: -1}, {Kind: -1}, {Kind: 7}, {Kind: math.MinInt}, {Kind: math.MaxInt}}
	for _, kind := range []int{impl.TyInt, impl.TyFloat, impl.TyInts, impl.TyFloats} {
		list = append(list, impl.Ty{Kind: kind, N: 1}, impl.Ty{Kind: kind, N: -1})
	}
	for _, kind := range []int{impl.TyPtr, impl.TyPtrs} {
		list = append(list, impl.Ty{Kind: kind, N: -1}, impl.Ty{Kind: kind, N: 2}, impl.Ty{Kind: kind, N: math.MinInt}, impl.Ty{Kind: kind, N: math.MaxInt})
	}
	return list
}

// realTypes are those over two structs.
func realTypes() []impl.Ty {
	return []impl.Ty{tyInt(), tyFloat(), tyPtr(0), tyPtr(1), tyInts(), tyFloats(), tyPtrs(0), tyPtrs(1)}
}

// tyUnit has one type in all places that are named: a field, a Param, its parameter, a Res with what is returned.
func tyUnit(ty impl.Ty, places string) impl.Unit {
	u := unitOf("struct int; struct float; fn f a:int; return; fn g > int; x = nil *0; jump b x; b p:int :; return p; fn main; return")
	if strings.Contains(places, "first") {
		u.Structs[0][0] = ty
	}
	if strings.Contains(places, "second") {
		u.Structs[1] = append(u.Structs[1], ty)
	}
	if strings.Contains(places, "param") {
		u.Fns[0].Params[0], u.Fns[0].Vals[0].Ty = ty, ty
	}
	f := &u.Fns[1]
	if strings.Contains(places, "res") {
		f.Res, f.Vals[1].Ty = ty, ty
	}
	f.Vals[0] = impl.Val{Op: impl.VaNil, Ty: f.Res}
	switch f.Res.Kind {
	case impl.TyInt:
		f.Vals[0].Op = impl.VaInt
	case impl.TyFloat:
		f.Vals[0].Op = impl.VaFloat
	}
	return u
}

func TestTypesInUnits(t *testing.T) {
	all := []string{"nowhere", "first", "second", "param", "res", "first second param res"}
	for _, places := range all {
		for _, ty := range realTypes() {
			wantUnit(t, fmt.Sprint(ty, " in ", places), tyUnit(ty, places), true)
		}
		for _, ty := range append(noTypes(), impl.Ty{}) {
			wantUnit(t, fmt.Sprint(ty, " in ", places), tyUnit(ty, places), places == "nowhere")
		}
	}
	// TyNone is a Res where nothing is returned, but a type with N is none.
	text := "fn f; return; fn main; return"
	for _, ty := range append(noTypes(), realTypes()...) {
		wantUnit(t, fmt.Sprint(ty, " is not returned"), edited(text, func(u *impl.Unit) { u.Fns[0].Res = ty }), false)
	}
	wantUnit(t, "nothing is returned", unitOf(text), true)
}

// TestStructsOverEachOther: a field's type may be over any struct there is, ahead or behind.
func TestStructsOverEachOther(t *testing.T) {
	wantUnits(t, "", true,
		"struct *2 []*1; struct *1 []*0; struct *0; fn main; return",
		"struct *0; fn main; return",
		"struct []*5; struct; struct; struct; struct; struct *0 *5; fn main; return")
	wantUnits(t, "", false,
		"struct *3; struct; struct; fn main; return",
		"struct []*1; fn main; return",
		"fn f a:*0; return; fn main; return",
		"fn f > []*0; x = nil []*0; return x; fn main; return",
		"fn main; x = nil *0; return",
		"struct; fn main; x = nil *1; return",
		"struct; fn main; x = nil []*1; return")
}
