package tests

import (
	"math"
	"math/big"
	"slices"
	"testing"

	"loop.example/g00306/impl"
)

// model does sources in another way than the program does: it goes by names, its values are those of Go, it counts with
// numbers of any size, and it hands its ends back. It notes at which step an item was put out, so that one run tells
// what comes of any fuel.
type model struct {
	source impl.Source
	input  []int
	most   int
	steps  int
	out    []impl.Item
	outAt  []int
	calls  int
	result any
}

// A modelEnd is why no more is done; nil as long as something is.
type modelEnd struct {
	end  int
	code int
}

// The values of the model: int, float64, and pointers to these.
type modelStruct struct{ fields map[string]any }
type modelList struct{ places []any }

// modelOver says that a call is over.
var modelOver = &modelEnd{end: -1}

// wantModel fails unless an outcome with all fuel there may be is the model's, and so are those with less.
func wantModel(t *testing.T, s impl.Source, input []int, o impl.Outcome) {
	t.Helper()
	m := model{source: s, input: input, most: impl.MaxFuel}
	end := m.whole()
	if want := m.with(end, impl.MaxFuel); !sameOutcome(o, want) {
		text, _ := impl.Print(bared(s))
		t.Fatalf("%s\nwith %v: %s\nthe model: %s", text, input, outcomeText(o), outcomeText(want))
	}
	for _, fuel := range someFuels(m.steps) {
		if got, want := impl.Eval(s, input, fuel), m.with(end, fuel); !sameOutcome(got, want) {
			text, _ := impl.Print(bared(s))
			t.Fatalf("%s\nwith %v and fuel %d: %s\nthe model: %s", text, input, fuel, outcomeText(got), outcomeText(want))
		}
	}
}

// someFuels are those around the ends, and some between.
func someFuels(steps int) []int {
	list := []int{0, 1, steps / 3, steps / 2, steps - 2, steps - 1, steps, steps + 1, 2 * steps}
	return slices.DeleteFunc(list, func(fuel int) bool { return fuel < 0 || fuel > impl.MaxFuel })
}

// with is what comes of the whole run with so much fuel.
func (m *model) with(end *modelEnd, fuel int) impl.Outcome {
	if fuel >= m.steps && end.end != impl.EndFuel {
		return impl.Outcome{End: end.end, Code: end.code, Out: m.out, Steps: m.steps}
	}
	o := impl.Outcome{End: impl.EndFuel, Steps: fuel}
	for i, item := range m.out {
		if m.outAt[i] <= fuel {
			o.Out = append(o.Out, item)
		}
	}
	return o
}

func (m *model) whole() *modelEnd {
	if _, end := m.call("main", nil); end != nil {
		return end
	}
	return &modelEnd{end: impl.EndExit}
}

func (m *model) step() *modelEnd {
	if m.steps == m.most {
		return &modelEnd{end: impl.EndFuel}
	}
	m.steps++
	return nil
}

func (m *model) put(kind int, n int) {
	m.out = append(m.out, impl.Item{Kind: kind, N: n})
	m.outAt = append(m.outAt, m.steps)
}

func (m *model) call(name string, args []any) (any, *modelEnd) {
	if m.calls >= impl.MaxCalls {
		return nil, &modelEnd{end: impl.EndDeep}
	}
	at := slices.IndexFunc(m.source.Funcs, func(f impl.Func) bool { return string(f.Name) == name })
	f := m.source.Funcs[at]
	vars := map[string]any{}
	for i, p := range f.Params {
		vars[string(p.Name)] = args[i]
	}
	m.calls++
	end := m.block(vars, f.Body)
	m.calls--
	if end != nil && end != modelOver {
		return nil, end
	}
	return m.result, nil
}

func modelZero(ty impl.Ty) any {
	switch ty.Kind {
	case impl.TyInt:
		return 0
	case impl.TyFloat:
		return float64(0)
	case impl.TyPtr:
		return (*modelStruct)(nil)
	}
	return (*modelList)(nil)
}

func (m *model) block(vars map[string]any, list []impl.Stmt) *modelEnd {
	for _, s := range list {
		if end := m.step(); end != nil {
			return end
		}
		if end := m.stmt(vars, s); end != nil {
			return end
		}
	}
	return nil
}

func (m *model) stmt(vars map[string]any, s impl.Stmt) *modelEnd {
	switch s.Kind {
	case impl.StVar:
		vars[string(s.Name)] = modelZero(s.Ty)
		return nil
	case impl.StSet:
		return m.set(vars, s.Kids[0], s.Kids[1])
	case impl.StFor:
		return m.loop(vars, s)
	case impl.StReturn:
		if len(s.Kids) == 0 {
			return modelOver
		}
	}
	v, end := m.value(vars, s.Kids[0])
	if end != nil {
		return end
	}
	switch s.Kind {
	case impl.StIf:
		if v != 0 {
			return m.block(vars, s.Body)
		}
		return m.block(vars, s.Else)
	case impl.StReturn:
		m.result = v
		return modelOver
	case impl.StPrint:
		if f, ok := v.(float64); ok {
			m.put(1, modelBits(f))
		} else {
			m.put(0, v.(int))
		}
	case impl.StPanic:
		return &modelEnd{end: impl.EndPanic, code: v.(int)}
	}
	return nil
}

func modelBits(f float64) int {
	if f != f {
		return noNumber
	}
	return int(math.Float64bits(f))
}

func (m *model) loop(vars map[string]any, s impl.Stmt) *modelEnd {
	for {
		v, end := m.value(vars, s.Kids[0])
		if end != nil || v == 0 {
			return end
		}
		if end := m.block(vars, s.Body); end != nil {
			return end
		}
	}
}

func (m *model) set(vars map[string]any, left impl.Expr, right impl.Expr) *modelEnd {
	kids, end := m.all(vars, left.Kids)
	if end != nil {
		return end
	}
	v, end := m.value(vars, right)
	if end != nil {
		return end
	}
	switch left.Kind {
	case impl.ExVar:
		vars[string(left.Name)] = v
	case impl.ExField:
		p := kids[0].(*modelStruct)
		if p == nil {
			return modelTrap(impl.TrapNil)
		}
		p.fields[string(left.Name)] = v
	case impl.ExIndex:
		l, at := kids[0].(*modelList), kids[1].(int)
		if l == nil || at < 0 || at >= len(l.places) {
			return modelTrap(impl.TrapIndex)
		}
		l.places[at] = v
	}
	return nil
}

func modelTrap(code int) *modelEnd {
	return &modelEnd{end: impl.EndTrap, code: code}
}

func (m *model) all(vars map[string]any, list []impl.Expr) ([]any, *modelEnd) {
	var values []any
	for _, e := range list {
		v, end := m.value(vars, e)
		if end != nil {
			return nil, end
		}
		values = append(values, v)
	}
	return values, nil
}

func (m *model) value(vars map[string]any, e impl.Expr) (any, *modelEnd) {
	if end := m.step(); end != nil {
		return nil, end
	}
	kids, end := m.all(vars, e.Kids)
	if end != nil {
		return nil, end
	}
	switch e.Kind {
	case impl.ExInt:
		return e.N, nil
	case impl.ExFloat:
		return math.Float64frombits(uint64(e.N)), nil
	case impl.ExNil:
		return (*modelStruct)(nil), nil
	case impl.ExVar:
		return vars[string(e.Name)], nil
	case impl.ExNew:
		return m.fresh(e.N), nil
	case impl.ExMake:
		return modelMake(e.Ty, kids[0].(int))
	case impl.ExCall:
		return m.call(string(e.Name), kids)
	case impl.ExField:
		if p := kids[0].(*modelStruct); p != nil {
			return p.fields[string(e.Name)], nil
		}
		return nil, modelTrap(impl.TrapNil)
	case impl.ExIndex:
		return modelIndex(kids[0].(*modelList), kids[1].(int))
	case impl.ExLen:
		if l := kids[0].(*modelList); l != nil {
			return len(l.places), nil
		}
		return 0, nil
	case impl.ExRead:
		return m.read(), nil
	}
	return modelArith(e, kids)
}

func (m *model) fresh(n int) *modelStruct {
	p := &modelStruct{fields: map[string]any{}}
	for _, f := range m.source.Structs[n].Fields {
		p.fields[string(f.Name)] = modelZero(f.Ty)
	}
	return p
}

func modelMake(ty impl.Ty, size int) (any, *modelEnd) {
	if size < 0 || size > impl.MaxMake {
		return nil, modelTrap(impl.TrapMake)
	}
	l := &modelList{}
	for range size {
		l.places = append(l.places, modelZero(elementOf(ty)))
	}
	return l, nil
}

func modelIndex(l *modelList, at int) (any, *modelEnd) {
	if l == nil || at < 0 || at >= len(l.places) {
		return nil, modelTrap(impl.TrapIndex)
	}
	return l.places[at], nil
}

func (m *model) read() int {
	if len(m.input) == 0 {
		return 0
	}
	defer func() { m.input = m.input[1:] }()
	return m.input[0]
}

func modelArith(e impl.Expr, kids []any) (any, *modelEnd) {
	switch x := kids[0].(type) {
	case int:
		if e.Kind == impl.ExToFloat {
			f, _ := new(big.Float).SetInt64(int64(x)).Float64()
			return f, nil
		}
		return modelInts(e.N, x, kids[1].(int))
	case float64:
		if e.Kind == impl.ExToInt {
			return modelToInt(x), nil
		}
		return modelFloats(e.N, x, kids[1].(float64)), nil
	}
	return modelTruth(kids[0] == kids[1]), nil
}

func modelTruth(holds bool) int {
	if holds {
		return 1
	}
	return 0
}

func modelFloats(op int, a float64, b float64) any {
	switch op {
	case impl.BiAdd:
		return a + b
	case impl.BiSub:
		return a - b
	case impl.BiMul:
		return a * b
	case impl.BiDiv:
		return a / b
	case impl.BiLess:
		return modelTruth(a < b)
	}
	return modelTruth(a == b)
}

// modelInts counts with numbers of any size, and goes round at the end.
func modelInts(op int, a int, b int) (any, *modelEnd) {
	x, y, z := big.NewInt(int64(a)), big.NewInt(int64(b)), new(big.Int)
	switch op {
	case impl.BiAdd:
		z.Add(x, y)
	case impl.BiSub:
		z.Sub(x, y)
	case impl.BiMul:
		z.Mul(x, y)
	case impl.BiLess:
		return modelTruth(x.Cmp(y) < 0), nil
	case impl.BiSame:
		return modelTruth(x.Cmp(y) == 0), nil
	default:
		if b == 0 {
			return nil, modelTrap(impl.TrapZero)
		}
		if op == impl.BiDiv {
			z.Quo(x, y)
		} else {
			z.Rem(x, y)
		}
	}
	z.And(z, new(big.Int).SetUint64(math.MaxUint64))
	return int(z.Uint64()), nil
}

func modelToInt(f float64) int {
	if f != f {
		return 0
	}
	z, _ := big.NewFloat(f).Int(nil)
	switch {
	case math.IsInf(f, 1), z != nil && z.Cmp(big.NewInt(math.MaxInt64)) > 0:
		return math.MaxInt
	case math.IsInf(f, -1), z.Cmp(big.NewInt(math.MinInt64)) < 0:
		return math.MinInt
	}
	return int(z.Int64())
}
