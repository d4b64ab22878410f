package tests

import (
	"slices"

	"loop.example/g00306/impl"
)

// web is a function whose values and blocks point to each other, so that nothing in it has a number. The passes are done
// to it in another way than the program does them: what goes is taken out at once, and whatever pointed to it is moved.
type web struct {
	params []impl.Ty
	res    impl.Ty
	blocks []*webBlock
}

type webVal struct {
	op, n int
	ty    impl.Ty
	args  []*webVal
}

type webEdge struct {
	to   *webBlock
	args []*webVal
}

type webBlock struct {
	params, code []*webVal
	term         int
	args         []*webVal
	out          []*webEdge
}

// secondOptimized is the unit that the second way makes, and whether it takes what it is given.
func secondOptimized(u impl.Unit, passes []int) (impl.Unit, bool) {
	if faultOf(u) != "" || len(passes) > 12 || slices.ContainsFunc(passes, func(p int) bool { return p < 0 || p > 3 }) {
		return impl.Unit{}, false
	}
	return secondPasses(u, passes), true
}

// secondPasses is secondOptimized of what is known to be well.
func secondPasses(u impl.Unit, passes []int) impl.Unit {
	made := impl.Unit{Structs: u.Structs, Main: u.Main}
	for _, f := range u.Fns {
		w := webOf(f)
		w.prune()
		for _, p := range passes {
			[]func(*web){(*web).fold, (*web).copies, (*web).sames, (*web).dead}[p](w)
			w.prune()
		}
		made.Fns = append(made.Fns, w.fn())
	}
	return made
}

func webOf(f impl.Fn) *web {
	vals := make([]*webVal, len(f.Vals))
	for n, v := range f.Vals {
		vals[n] = &webVal{op: v.Op, n: v.N, ty: v.Ty}
	}
	pick := func(list []int) []*webVal {
		var picked []*webVal
		for _, v := range list {
			picked = append(picked, vals[v])
		}
		return picked
	}
	for n, v := range f.Vals {
		vals[n].args = pick(v.Args)
	}
	w := &web{params: f.Params, res: f.Res}
	for _, b := range f.Blocks {
		w.blocks = append(w.blocks, &webBlock{params: pick(b.Params), code: pick(b.Code), term: b.Term, args: pick(b.Args)})
	}
	for n, b := range f.Blocks {
		for _, e := range b.Out {
			w.blocks[n].out = append(w.blocks[n].out, &webEdge{w.blocks[e.To], pick(e.Args)})
		}
	}
	return w
}

// prune takes out blocks that are not reached.
func (w *web) prune() {
	reached := reachedWithout(w.fn().Blocks, -1)
	var left []*webBlock
	for n, b := range w.blocks {
		if reached[n] {
			left = append(left, b)
		}
	}
	w.blocks = left
}

// fn numbers all that stands somewhere as it comes.
func (w *web) fn() impl.Fn {
	numbers := map[*webVal]int{}
	f := impl.Fn{Params: w.params, Res: w.res}
	for _, b := range w.blocks {
		for _, v := range slices.Concat(b.params, b.code) {
			numbers[v] = len(numbers)
		}
	}
	number := func(list []*webVal) []int {
		var told []int
		for _, v := range list {
			n, ok := numbers[v]
			if !ok {
				n = -1
			}
			told = append(told, n)
		}
		return told
	}
	for _, b := range w.blocks {
		for _, v := range slices.Concat(b.params, b.code) {
			f.Vals = append(f.Vals, impl.Val{Op: v.op, N: v.n, Ty: v.ty, Args: number(v.args)})
		}
		block := impl.Block{Params: number(b.params), Code: number(b.code), Term: b.term, Args: number(b.args)}
		for _, e := range b.out {
			block.Out = append(block.Out, impl.Edge{To: slices.Index(w.blocks, e.to), Args: number(e.args)})
		}
		f.Blocks = append(f.Blocks, block)
	}
	return f
}

// move lets all that points to a value point to another one.
func (w *web) move(from *webVal, to *webVal) {
	turn := func(list []*webVal) {
		for i, v := range list {
			if v == from {
				list[i] = to
			}
		}
	}
	for _, b := range w.blocks {
		for _, v := range b.code {
			turn(v.args)
		}
		turn(b.args)
		for _, e := range b.out {
			turn(e.args)
		}
	}
}

// cut takes out a parameter, and what edges bring for it.
func (w *web) cut(b *webBlock, at int) {
	for _, e := range w.edgesTo(b) {
		e.args = slices.Delete(e.args, at, at+1)
	}
	b.params = slices.Delete(b.params, at, at+1)
}

func (w *web) edgesTo(to *webBlock) []*webEdge {
	var list []*webEdge
	for _, b := range w.blocks {
		for _, e := range b.out {
			if e.to == to {
				list = append(list, e)
			}
		}
	}
	return list
}

func (w *web) fold() {
	for _, b := range w.blocks {
		for i := 0; i < len(b.code); {
			if b.code[i].isIdle() {
				b.code = slices.Delete(b.code, i, i+1)
				continue
			}
			b.code[i].settle()
			i++
		}
		if b.term != impl.TmIf || b.args[0].op != impl.VaInt {
			continue
		}
		if b.args[0].n != 0 {
			b.out = b.out[:1]
		} else {
			b.out = b.out[1:]
		}
		b.term, b.args = impl.TmJump, nil
	}
}

// isIdle: a check that its own model never ends at.
func (v *webVal) isIdle() bool {
	if len(v.args) != 1 {
		return false
	}
	of := v.args[0]
	switch v.op {
	case impl.VaNilCheck:
		return of.op == impl.VaNew
	case impl.VaZeroCheck, impl.VaMakeCheck:
		return of.op == impl.VaInt && modelCheck(v.op, []any{of.n}) == nil
	}
	return false
}

// settle makes the constant of a value that has nothing but constants, as the model works it out.
func (v *webVal) settle() {
	if v.op < impl.VaArith || v.op > impl.VaLen {
		return
	}
	ops := map[int]bool{}
	var args []any
	for _, of := range v.args {
		ops[of.op] = true
		switch of.op {
		case impl.VaInt:
			args = append(args, of.n)
		case impl.VaFloat:
			args = append(args, impl.Float(of.n))
		case impl.VaNil:
			args = append(args, modelZero(of.ty))
		default:
			args = append(args, &modelStruct{})
		}
	}
	if v.op == impl.VaSame && v.args[0] == v.args[1] {
		args, ops = []any{args[0], args[0]}, map[int]bool{impl.VaNil: true}
	}
	if !isKnown(v.op, ops) {
		return
	}
	m := unitModel{}
	is, end := m.val(impl.Val{Op: v.op, N: v.n, Ty: v.ty}, args)
	if end != nil {
		return
	}
	v.op, v.args = impl.VaInt, nil
	if f, isFloat := is.(float64); isFloat {
		v.op, v.n = impl.VaFloat, modelBits(f)
	} else {
		v.n = is.(int)
	}
}

// isKnown says of which ops the Args of one must be, that it can be worked out.
func isKnown(op int, of map[int]bool) bool {
	switch op {
	case impl.VaArith, impl.VaToFloat:
		return len(of) == 1 && of[impl.VaInt]
	case impl.VaDec, impl.VaToInt:
		return len(of) == 1 && of[impl.VaFloat]
	case impl.VaSame:
		return len(of) == 1 && of[impl.VaNil] || len(of) == 2 && of[impl.VaNil] && of[impl.VaNew]
	}
	return of[impl.VaNil]
}

// copies begins from the front after each parameter that goes.
func (w *web) copies() {
	for w.oneCopy() {
	}
}

func (w *web) oneCopy() bool {
	for _, b := range w.blocks[1:] {
		for at, p := range b.params {
			come := map[*webVal]bool{}
			var last *webVal
			for _, e := range w.edgesTo(b) {
				if e.args[at] != p {
					last = e.args[at]
					come[last] = true
				}
			}
			if len(come) == 1 {
				w.cut(b, at)
				w.move(p, last)
				return true
			}
		}
	}
	return false
}

// sames holds each value against all that were kept.
func (w *web) sames() {
	over := onAllWays(w.fn().Blocks)
	type keptVal struct {
		v *webVal
		b int
	}
	var kept []keptVal
	for n, b := range w.blocks {
		for i := 0; i < len(b.code); {
			v := b.code[i]
			at := slices.IndexFunc(kept, func(k keptVal) bool {
				return (k.b == n || over[n][k.b]) && k.v.op == v.op && k.v.n == v.n && k.v.ty == v.ty && slices.Equal(k.v.args, v.args)
			})
			if at >= 0 {
				b.code = slices.Delete(b.code, i, i+1)
				w.move(v, kept[at].v)
				continue
			}
			if isCheckOp(v.op) || isQuietOp(v.op) && v.op != impl.VaLoad && v.op != impl.VaGet {
				kept = append(kept, keptVal{v, n})
			}
			i++
		}
	}
}

func isCheckOp(op int) bool {
	return slices.Contains([]int{impl.VaNilCheck, impl.VaIndexCheck, impl.VaZeroCheck, impl.VaMakeCheck}, op)
}

// isQuietOp: what PassDead may take out.
func isQuietOp(op int) bool {
	return slices.Contains([]int{impl.VaInt, impl.VaFloat, impl.VaNil, impl.VaArith, impl.VaDec, impl.VaSame, impl.VaToInt, impl.VaToFloat, impl.VaLen, impl.VaLoad, impl.VaGet}, op)
}

// dead looks at all that may be needed again and again, till there is no more.
func (w *web) dead() {
	needed := map[*webVal]bool{}
	for before := -1; before < len(needed); {
		before = len(needed)
		for _, b := range w.blocks {
			markAll(needed, b.args)
			for _, v := range b.code {
				if !isQuietOp(v.op) || needed[v] {
					needed[v] = true
					markAll(needed, v.args)
				}
			}
			for _, e := range b.out {
				for i, p := range e.to.params {
					if needed[p] {
						needed[e.args[i]] = true
					}
				}
			}
		}
	}
	for _, b := range w.blocks {
		b.code = slices.DeleteFunc(b.code, func(v *webVal) bool { return !needed[v] })
	}
	for _, b := range w.blocks[1:] {
		for at := len(b.params) - 1; at >= 0; at-- {
			if !needed[b.params[at]] {
				w.cut(b, at)
			}
		}
	}
}

func markAll(needed map[*webVal]bool, list []*webVal) {
	for _, v := range list {
		needed[v] = true
	}
}
