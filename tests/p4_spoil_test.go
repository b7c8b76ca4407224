package tests

import (
	"math"
	"slices"

	"loop.example/meaning/impl"
)

// spoiler changes a unit here and there.
type spoiler struct {
	s *sequence
	u *impl.Unit
}

func (p spoiler) pick(n int) int { return int(p.s.next() % uint64(n)) }

func (p spoiler) fn() *impl.Fn { return &p.u.Fns[p.pick(len(p.u.Fns))] }

// nodeOf is a node of the kinds, if the fn has one.
func (p spoiler) nodeOf(fn *impl.Fn, kinds ...int) *impl.Node {
	var places []int
	for i, n := range fn.Nodes {
		if len(kinds) == 0 || slices.Contains(kinds, n.Kind) {
			places = append(places, i)
		}
	}
	if len(places) == 0 {
		return nil
	}
	return &fn.Nodes[places[p.pick(len(places))]]
}

// near is a number from one below 0 up to n.
func (p spoiler) near(n int) int { return p.pick(n+2) - 1 }

// inNames keeps the form of the tree and changes what its nodes name.
func (p spoiler) inNames() {
	fn := p.fn()
	switch p.pick(8) {
	case 0, 1:
		p.rename(p.nodeOf(fn, impl.NVar), len(fn.Vars))
	case 2:
		p.rename(p.nodeOf(fn, impl.NUp), len(fn.Ups))
	case 3:
		p.rename(p.nodeOf(fn, impl.NFn), len(p.u.Fns))
	case 4:
		p.rename(p.nodeOf(fn, impl.NLet, impl.NFor, impl.NEach, impl.NTry), len(fn.Vars))
	case 5:
		if len(fn.Ups) > 0 {
			fn.Ups[p.pick(len(fn.Ups))] = impl.Up{Local: p.pick(2) == 0, Index: p.near(4)}
		}
	case 6:
		fn.Rest = !fn.Rest
	case 7:
		if n := p.nodeOf(fn, impl.NInt, impl.NNil, impl.NTrue); n != nil {
			*n = names(impl.NFn, p.pick(len(p.u.Fns)))
		}
	}
}

func (p spoiler) rename(n *impl.Node, many int) {
	if n != nil && len(n.Refs) > 0 {
		n.Refs[p.pick(len(n.Refs))] = p.near(many)
	}
}

// inOrder keeps every form and moves statements about.
func (p spoiler) inOrder() {
	fn := p.fn()
	switch p.pick(4) {
	case 0:
		if n := p.nodeOf(fn, impl.NBlock); n != nil && len(n.Kids) > 1 {
			i, j := p.pick(len(n.Kids)), p.pick(len(n.Kids))
			n.Kids[i], n.Kids[j] = n.Kids[j], n.Kids[i]
		}
	case 1:
		p.move(fn)
	case 2, 3:
		if n := p.nodeOf(fn, impl.NReturn); n != nil && len(n.Kids) == 0 {
			*n = begins(impl.NBreak+p.pick(2), 1)
		}
	}
}

// move takes a statement out of one block into another that stands behind it.
func (p spoiler) move(fn *impl.Fn) {
	from := p.nodeOf(fn, impl.NBlock)
	if from == nil || len(from.Kids) == 0 {
		return
	}
	i := p.pick(len(from.Kids))
	kid := from.Kids[i]
	if kid < 0 || kid > len(fn.Nodes)-2 {
		return
	}
	for range 10 {
		place := kid + 1 + p.pick(len(fn.Nodes)-kid-1)
		if to := &fn.Nodes[place]; to.Kind == impl.NBlock {
			from.Kids = slices.Delete(from.Kids, i, i+1)
			to.Kids = slices.Insert(to.Kids, p.pick(len(to.Kids)+1), kid)
			return
		}
	}
}

// inForm changes any field of any node.
func (p spoiler) inForm() {
	fn := p.fn()
	n := p.nodeOf(fn)
	switch p.pick(10) {
	case 0:
		n.Kind = p.near(40)
	case 1:
		n.Line = []int{-1, 0, 1, 100000, 100001}[p.pick(5)]
	case 2:
		n.Op = p.near(23)
	case 3:
		n.Num = int64(p.near(16))
	case 4:
		n.Flt = []float64{0, minusZero, 1, math.NaN()}[p.pick(4)]
	case 5:
		n.Str = long(p.pick(2))
	case 6:
		n.Refs = append(n.Refs, p.near(3))
	case 7:
		n.Refs = n.Refs[:p.pick(len(n.Refs)+1)]
	case 8:
		n.Kids = append(n.Kids, p.near(len(fn.Nodes)))
	case 9:
		n.Kids = n.Kids[:p.pick(len(n.Kids)+1)]
	}
}

// inTree changes whose kid a node is.
func (p spoiler) inTree() {
	fn := p.fn()
	switch p.pick(4) {
	case 0:
		if n := p.nodeOf(fn); len(n.Kids) > 0 {
			n.Kids[p.pick(len(n.Kids))] = p.near(len(fn.Nodes))
		}
	case 1:
		if n := p.nodeOf(fn, impl.NBlock, impl.NReturn); n != nil && len(n.Kids) > 0 {
			i := p.pick(len(n.Kids))
			n.Kids = slices.Delete(n.Kids, i, i+1)
		}
	case 2:
		if n := p.nodeOf(fn, impl.NBlock, impl.NReturn, impl.NCall); n != nil && len(n.Kids) > 0 {
			n.Kids = append(n.Kids, n.Kids[p.pick(len(n.Kids))])
		}
	case 3:
		if len(fn.Nodes) > 1 {
			fn.Nodes = fn.Nodes[:len(fn.Nodes)-1]
		}
	}
}

// inFns changes what stands around the nodes.
func (p spoiler) inFns() {
	fn := p.fn()
	switch p.pick(9) {
	case 0:
		fn.Params = p.near(len(fn.Vars))
	case 1:
		fn.Line = []int{-1, 0, 100000, 100001}[p.pick(4)]
	case 2:
		fn.Name = long(40 + p.pick(2))
	case 3:
		fn.Vars = append(fn.Vars, long([]int{0, 1, 40, 41}[p.pick(4)]))
	case 4:
		fn.Vars = fn.Vars[:p.pick(len(fn.Vars)+1)]
	case 5:
		fn.Ups = append(fn.Ups, impl.Up{Local: p.pick(2) == 0, Index: p.near(3)})
	case 6:
		p.u.Fns = append(p.u.Fns, copyUnit(unitOf(*fn)).Fns[0])
	case 7:
		i, j := p.pick(len(p.u.Fns)), p.pick(len(p.u.Fns))
		p.u.Fns[i], p.u.Fns[j] = p.u.Fns[j], p.u.Fns[i]
	case 8:
		if len(p.u.Fns) > 1 {
			p.u.Fns = p.u.Fns[:len(p.u.Fns)-1]
		}
	}
}
