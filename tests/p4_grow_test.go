package tests

import (
	"slices"

	"loop.example/meaning/impl"
)

// tree is a node whose number is not settled yet.
type tree struct {
	impl.Node
	kids []*tree
}

// grower makes valid units. Their nodes are numbered in any order that has
// kids ahead of their parents, so the order of the numbers is not that of the
// text.
type grower struct {
	s      *sequence
	fns    []impl.Fn
	at     int
	scope  []int
	inLoop bool
}

func (g *grower) pick(n int) int { return int(g.s.next() % uint64(n)) }

func grow(s *sequence) impl.Unit {
	g := &grower{s: s, fns: []impl.Fn{{Rest: s.next()%2 == 0}}}
	for at := 0; at < len(g.fns); at++ {
		g.at, g.scope, g.inLoop = at, nil, false
		for v := range g.fns[at].Params {
			g.scope = append(g.scope, v)
		}
		g.fns[at].Nodes = g.number(g.block(3))
	}
	return impl.Unit{Fns: g.fns}
}

func (g *grower) node(n impl.Node, kids ...*tree) *tree {
	if n.Kind < 20 {
		n.Line = 1 + g.pick(30)
	}
	return &tree{n, kids}
}

// fresh is a new variable of the fn.
func (g *grower) fresh() int {
	fn := &g.fns[g.at]
	fn.Vars = append(fn.Vars, long(1+g.pick(40)))
	return len(fn.Vars) - 1
}

func (g *grower) block(depth int) *tree {
	before := len(g.scope)
	var kids []*tree
	for range g.pick(5) {
		kids = append(kids, g.statement(depth))
	}
	g.scope = g.scope[:before]
	return g.node(impl.Node{Kind: impl.NBlock}, kids...)
}

// inner is a block with further variables in scope.
func (g *grower) inner(depth int, vars ...int) *tree {
	before := len(g.scope)
	g.scope = append(g.scope, vars...)
	b := g.block(depth)
	g.scope = g.scope[:before]
	return b
}

func (g *grower) looped(depth int, vars ...int) *tree {
	before := g.inLoop
	g.inLoop = true
	b := g.inner(depth, vars...)
	g.inLoop = before
	return b
}

func (g *grower) statement(depth int) *tree {
	if depth == 0 || g.pick(2) == 0 {
		return g.plain(depth)
	}
	switch g.pick(6) {
	case 0:
		return g.block(depth - 1)
	case 1:
		return g.choice(depth - 1)
	case 2:
		e := g.expression(2)
		return g.node(impl.Node{Kind: impl.NWhile}, e, g.looped(depth-1))
	case 3:
		v := g.fresh()
		from, to, step := g.expression(1), g.expression(1), g.expression(1)
		return g.node(impl.Node{Kind: impl.NFor, Refs: []int{v}}, from, to, step, g.looped(depth-1, v))
	case 4:
		vars := g.freshOnes(1 + g.pick(4))
		e := g.expression(2)
		return g.node(impl.Node{Kind: impl.NEach, Refs: vars}, e, g.looped(depth-1, vars...))
	}
	vars := g.freshOnes(2)
	first := g.block(depth - 1)
	return g.node(impl.Node{Kind: impl.NTry, Refs: vars}, first, g.inner(depth-1, vars...))
}

func (g *grower) choice(depth int) *tree {
	kids := []*tree{g.expression(2), g.block(depth)}
	switch g.pick(3) {
	case 0:
		kids = append(kids, g.block(depth))
	case 1:
		kids = append(kids, g.node(impl.Node{Kind: impl.NIf}, g.expression(1), g.block(0)))
	}
	return g.node(impl.Node{Kind: impl.NIf}, kids...)
}

func (g *grower) freshOnes(n int) []int {
	var vars []int
	for range n {
		vars = append(vars, g.fresh())
	}
	return vars
}

func (g *grower) plain(depth int) *tree {
	if g.inLoop && g.pick(4) == 0 {
		return g.node(impl.Node{Kind: impl.NBreak + g.pick(2)})
	}
	switch g.pick(7) {
	case 0, 1:
		kids := g.expressions(g.pick(3))
		vars := g.freshOnes(1 + g.pick(2))
		g.scope = append(g.scope, vars...)
		return g.node(impl.Node{Kind: impl.NLet, Refs: vars}, kids...)
	case 2:
		return g.assignment()
	case 3:
		return g.node(impl.Node{Kind: impl.NReturn}, g.expressions(g.pick(3))...)
	case 4:
		return g.node(impl.Node{Kind: impl.NThrow}, g.expression(2))
	case 5:
		return g.node(impl.Node{Kind: impl.NDefer}, g.call(1))
	}
	return g.node(impl.Node{Kind: impl.NDo}, g.call(2))
}

func (g *grower) assignment() *tree {
	targets := 1 + g.pick(2)
	var kids []*tree
	for range targets {
		kids = append(kids, g.target())
	}
	kids = append(kids, g.expressions(1+g.pick(2))...)
	return g.node(impl.Node{Kind: impl.NSet, Num: int64(targets)}, kids...)
}

func (g *grower) target() *tree {
	if e := g.named(); e != nil && g.pick(2) == 0 {
		return e
	}
	return g.node(impl.Node{Kind: impl.NIndex}, g.expression(1), g.expression(0))
}

// named is a NVar or a NUp, if there is one to name.
func (g *grower) named() *tree {
	ups := len(g.fns[g.at].Ups)
	switch {
	case ups > 0 && g.pick(3) == 0:
		return g.node(names(impl.NUp, g.pick(ups)))
	case len(g.scope) > 0:
		return g.node(names(impl.NVar, g.scope[g.pick(len(g.scope))]))
	}
	return nil
}

func (g *grower) expressions(n int) []*tree {
	var es []*tree
	for range n {
		es = append(es, g.expression(2))
	}
	return es
}

func (g *grower) call(depth int) *tree {
	kids := []*tree{g.expression(depth)}
	for range g.pick(3) {
		kids = append(kids, g.expression(depth))
	}
	return g.node(impl.Node{Kind: impl.NCall}, kids...)
}

// list is a NCall or a NRest.
func (g *grower) list(depth int) *tree {
	if g.fns[g.at].Rest && g.pick(2) == 0 {
		return g.node(has(impl.NRest))
	}
	return g.call(depth)
}

func (g *grower) expression(depth int) *tree {
	if depth == 0 || g.pick(3) == 0 {
		return g.leaf()
	}
	switch g.pick(6) {
	case 0:
		return g.node(impl.Node{Kind: impl.NAnd + g.pick(2)}, g.expression(depth-1), g.expression(depth-1))
	case 1:
		return g.node(impl.Node{Kind: impl.NUnary, Op: impl.OpNeg + g.pick(4)}, g.expression(depth-1))
	case 2:
		return g.node(impl.Node{Kind: impl.NBinary, Op: 1 + g.pick(18)}, g.expression(depth-1), g.expression(depth-1))
	case 3:
		return g.list(depth - 1)
	case 4:
		return g.node(impl.Node{Kind: impl.NOne}, g.list(depth-1))
	}
	kids := []*tree{g.expression(depth - 1), g.expression(depth - 1)}
	if g.pick(2) == 0 {
		return g.node(impl.Node{Kind: impl.NTable}, kids...)
	}
	return g.node(impl.Node{Kind: impl.NTable, Op: 1}, append(kids, g.node(counts(impl.NInt, 1)), g.list(depth-1))...)
}

func (g *grower) leaf() *tree {
	switch g.pick(9) {
	case 0:
		return g.node(impl.Node{Kind: impl.NNil + g.pick(3)})
	case 1:
		return g.node(counts(impl.NInt, g.s.anyInt()))
	case 2:
		return g.node(impl.Node{Kind: impl.NFlt, Flt: g.s.anyFloat()})
	case 3:
		return g.node(impl.Node{Kind: impl.NStr, Str: long(g.pick(5))})
	case 4:
		return g.node(counts(impl.NBuiltin, int64(g.pick(15))))
	case 5:
		if len(g.fns) < 6 {
			return g.made()
		}
	}
	if e := g.named(); e != nil {
		return e
	}
	return g.node(has(impl.NNil))
}

func (g *grower) made() *tree {
	fn := impl.Fn{Name: long(g.pick(41)), Line: g.pick(3), Params: g.pick(3), Rest: g.pick(2) == 0}
	fn.Vars = slices.Repeat([]string{"p"}, fn.Params)
	for range g.pick(3) {
		if ups := len(g.fns[g.at].Ups); ups > 0 && g.pick(2) == 0 {
			fn.Ups = append(fn.Ups, impl.Up{Index: g.pick(ups)})
		} else if len(g.scope) > 0 {
			fn.Ups = append(fn.Ups, impl.Up{Local: true, Index: g.scope[g.pick(len(g.scope))]})
		}
	}
	g.fns = append(g.fns, fn)
	return g.node(names(impl.NFn, len(g.fns)-1))
}

// number settles the numbers from the last down: any node can come next whose
// parent has its number.
func (g *grower) number(root *tree) []impl.Node {
	type waiting struct {
		*tree
		parent, place int
	}
	row := []impl.Node{}
	open := []waiting{{root, -1, 0}}
	for len(open) > 0 {
		i := g.pick(len(open))
		w := open[i]
		open = slices.Delete(open, i, i+1)
		w.Kids = make([]int, len(w.kids))
		if w.parent >= 0 {
			row[w.parent].Kids[w.place] = len(row)
		}
		for place, kid := range w.kids {
			open = append(open, waiting{kid, len(row), place})
		}
		row = append(row, w.Node)
	}
	slices.Reverse(row)
	for _, n := range row {
		for i := range n.Kids {
			n.Kids[i] = len(row) - 1 - n.Kids[i]
		}
	}
	return row
}
