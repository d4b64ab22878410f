package tests

import (
	"fmt"
	"math"
	"math/big"
	"testing"

	"loop.example/g00306/impl"
)

// unitModel does units in another way than the program does: its values are those of Go, by their numbers in a map, it
// counts with numbers of any size, and it hands its ends back. Like the model of sources it notes when an item was put
// out, so that one run tells what comes of any fuel. What forget is asked for at the beginning of blocks, and where a
// value is made, it may take out of the map; what is used must still be there.
type unitModel struct {
	model
	unit   impl.Unit
	forget forgetter
}

// forgetter takes values out of those of a function.
type forgetter interface {
	atBlock(fn int, block int, values map[int]any)
	atVal(fn int, val int, values map[int]any)
}

var modelStuck = &modelEnd{end: impl.EndStuck}

// wantUnitModel fails unless an outcome with all fuel there may be is the model's, and so are those with less.
func wantUnitModel(t *testing.T, u impl.Unit, input []int, o impl.Outcome) {
	t.Helper()
	m := unitModel{model: model{input: input, most: impl.MaxFuel}, unit: u}
	_, end := m.call(u.Main, nil)
	if end == nil {
		end = &modelEnd{end: impl.EndExit}
	}
	if want := m.with(end, impl.MaxFuel); !sameOutcome(o, want) {
		t.Fatalf("%s\nwith %v: %s\nthe model: %s", showUnit(u), input, outcomeText(o), outcomeText(want))
	}
	for _, fuel := range someFuels(m.steps) {
		if got, want := impl.RunUnit(u, input, fuel), m.with(end, fuel); !sameOutcome(got, want) {
			t.Fatalf("%s\nwith %v and fuel %d: %s\nthe model: %s", showUnit(u), input, fuel, outcomeText(got), outcomeText(want))
		}
	}
}

func (m *unitModel) call(n int, args []any) (any, *modelEnd) {
	if m.calls >= impl.MaxCalls {
		return nil, &modelEnd{end: impl.EndDeep}
	}
	m.calls++
	defer func() { m.calls-- }()
	f := m.unit.Fns[n]
	values := map[int]any{}
	at, brought := 0, args
	for {
		if m.forget != nil {
			m.forget.atBlock(n, at, values)
		}
		for i, v := range f.Blocks[at].Params {
			values[v] = brought[i]
		}
		for _, v := range f.Blocks[at].Code {
			if end := m.step(); end != nil {
				return nil, end
			}
			made, end := m.val(f.Vals[v], pickValues(values, f.Vals[v].Args))
			if end != nil {
				return nil, end
			}
			if m.forget != nil {
				m.forget.atVal(n, v, values)
			}
			values[v] = made
		}
		if end := m.step(); end != nil {
			return nil, end
		}
		block := f.Blocks[at]
		last := pickValues(values, block.Args)
		switch block.Term {
		case impl.TmReturn:
			return append(last, nil)[0], nil
		case impl.TmPanic:
			return nil, &modelEnd{end: impl.EndPanic, code: last[0].(int)}
		}
		edge := block.Out[0]
		if block.Term == impl.TmIf && last[0].(int) == 0 {
			edge = block.Out[1]
		}
		at, brought = edge.To, pickValues(values, edge.Args)
	}
}

func pickValues(values map[int]any, list []int) []any {
	var picked []any
	for _, v := range list {
		value, ok := values[v]
		if !ok {
			panic(fmt.Sprint("the value ", v, " is not there"))
		}
		picked = append(picked, value)
	}
	return picked
}

func (m *unitModel) val(v impl.Val, args []any) (any, *modelEnd) {
	switch v.Op {
	case impl.VaInt:
		return v.N, nil
	case impl.VaFloat:
		return math.Float64frombits(uint64(v.N)), nil
	case impl.VaNil:
		return modelZero(v.Ty), nil
	case impl.VaArith:
		z, end := modelInts(v.N, args[0].(int), args[1].(int))
		if end != nil {
			return nil, modelStuck
		}
		return z, nil
	case impl.VaDec:
		ops := []int{impl.FaAdd: impl.BiAdd, impl.FaSub: impl.BiSub, impl.FaMul: impl.BiMul, impl.FaDiv: impl.BiDiv, impl.FaLess: impl.BiLess, impl.FaSame: impl.BiSame}
		return modelFloats(ops[v.N], args[0].(float64), args[1].(float64)), nil
	case impl.VaSame:
		return modelTruth(args[0].(*modelStruct) == args[1].(*modelStruct)), nil
	case impl.VaToInt:
		return modelToInt(args[0].(float64)), nil
	case impl.VaToFloat:
		f, _ := new(big.Float).SetInt64(int64(args[0].(int))).Float64()
		return f, nil
	case impl.VaRead:
		return m.read(), nil
	case impl.VaPrint:
		if v.N == 1 {
			m.put(1, modelBits(args[0].(float64)))
		} else {
			m.put(0, args[0].(int))
		}
		return nil, nil
	case impl.VaCall:
		return m.call(v.N, args)
	}
	return m.objectVal(v, args)
}

func (m *unitModel) objectVal(v impl.Val, args []any) (any, *modelEnd) {
	switch v.Op {
	case impl.VaLen:
		return len(modelPlaces(args[0])), nil
	case impl.VaNew:
		p := &modelStruct{fields: map[string]any{}}
		for n, ty := range m.unit.Structs[v.N] {
			p.fields[fieldName(n)] = modelZero(ty)
		}
		return p, nil
	case impl.VaMake:
		l, end := modelMake(v.Ty, args[0].(int))
		if end != nil {
			return nil, modelStuck
		}
		return l, nil
	case impl.VaLoad, impl.VaStore:
		p := args[0].(*modelStruct)
		if p == nil {
			return nil, modelStuck
		}
		if v.Op == impl.VaStore {
			p.fields[fieldName(v.N)] = args[1]
		}
		return p.fields[fieldName(v.N)], nil
	case impl.VaGet, impl.VaPut:
		places, at := modelPlaces(args[0]), args[1].(int)
		if _, end := modelIndex(args[0].(*modelList), at); end != nil {
			return nil, modelStuck
		}
		if v.Op == impl.VaPut {
			places[at] = args[2]
		}
		return places[at], nil
	}
	return nil, modelCheck(v.Op, args)
}

func fieldName(n int) string { return string(rune('a' + n)) }

func modelPlaces(list any) []any {
	if l := list.(*modelList); l != nil {
		return l.places
	}
	return nil
}

func modelCheck(op int, args []any) *modelEnd {
	trap := map[bool]*modelEnd{}
	switch op {
	case impl.VaNilCheck:
		trap[args[0].(*modelStruct) == nil] = modelTrap(impl.TrapNil)
	case impl.VaIndexCheck:
		_, end := modelIndex(args[0].(*modelList), args[1].(int))
		return end
	case impl.VaZeroCheck:
		trap[args[0].(int) == 0] = modelTrap(impl.TrapZero)
	case impl.VaMakeCheck:
		_, end := modelMake(tyInts(), args[0].(int))
		return end
	}
	return trap[true]
}
