package tests

import (
	"slices"

	"loop.example/meaning/impl"
)

// kept is what a defer has kept.
type kept struct {
	line   int
	callee impl.Value
	args   []impl.Value
}

// blockOf is an NBlock that is being done: its step is put back for each of its
// statements.
type blockOf struct {
	*todo
	defers []kept
}

func (b *blockOf) keeps() []impl.Value {
	var vals []impl.Value
	for _, d := range b.defers {
		vals = append(append(vals, d.callee), d.args...)
	}
	return vals
}

func (m *runModel) block(c *opened, node impl.Node, vars []*holder) {
	b := &blockOf{todo: &todo{vars: vars}}
	done := 0
	next := func() {
		if done == len(node.Kids) {
			m.finish(b, departure{how: "end"})
			return
		}
		done++
		b.needs = b.keeps()
		m.push(b.todo)
		m.statement(c, node.Kids[done-1], b)
	}
	b.got = func([]impl.Value) { next() }
	b.left = func(d departure) { m.finish(b, d) }
	next()
}

// finish runs the defers, then goes on as the block was left.
func (m *runModel) finish(b *blockOf, d departure) {
	if len(b.defers) == 0 {
		if d.how == "end" {
			m.give()
		} else {
			m.leave(d)
		}
		return
	}
	last := b.defers[len(b.defers)-1]
	b.defers = b.defers[:len(b.defers)-1]
	m.push(&todo{line: last.line, vars: b.vars, needs: append(b.keeps(), d.vals...),
		got: func([]impl.Value) { m.finish(b, d) },
		left: func(own departure) {
			if d.how == "gone" && own.how == "error" {
				m.now.dropped = &own
				m.finish(b, d)
				return
			}
			m.finish(b, own)
		}})
	m.call(last.callee, last.args, 0)
}

func (m *runModel) statement(c *opened, n int, b *blockOf) {
	node := m.node(c, n)
	if node.Kind == impl.NBlock {
		m.block(c, node, nil)
		return
	}
	m.tick()
	m.push(&todo{line: node.Line, got: func([]impl.Value) { m.give() }})
	m.rec(impl.RecLine, c.fn, node.Line, "")
	switch node.Kind {
	case impl.NLet:
		m.assigned(c, len(node.Refs), node.Kids, nil, func(vals []impl.Value) {
			b.vars = append(b.vars, c.declare(node.Refs, vals)...)
			m.give()
		})
	case impl.NSet:
		m.targets(c, node)
	case impl.NDo:
		m.eval(c, node.Kids[0])
	case impl.NIf:
		m.one(c, node.Kids[0], nil, func(v impl.Value) {
			switch {
			case impl.Truth(v):
				m.statement(c, node.Kids[1], nil)
			case len(node.Kids) > 2:
				m.statement(c, node.Kids[2], nil)
			default:
				m.give()
			}
		})
	case impl.NDefer:
		m.one(c, m.node(c, node.Kids[0]).Kids[0], nil, func(callee impl.Value) {
			m.list(c, m.node(c, node.Kids[0]).Kids[1:], []impl.Value{callee}, func(args []impl.Value) {
				b.defers = append(b.defers, kept{node.Line, callee, args})
				m.give()
			})
		})
	default:
		m.leaving(c, node)
	}
}

// leaving has the statements that leave something, or see it left.
func (m *runModel) leaving(c *opened, node impl.Node) {
	switch node.Kind {
	case impl.NBreak:
		m.leave(departure{how: "break"})
	case impl.NNext:
		m.leave(departure{how: "next"})
	case impl.NReturn:
		m.list(c, node.Kids, nil, func(vals []impl.Value) { m.leave(departure{how: "return", vals: vals}) })
	case impl.NThrow:
		m.one(c, node.Kids[0], nil, m.throw)
	case impl.NTry:
		m.push(&todo{got: func([]impl.Value) { m.give() }, left: func(d departure) {
			if d.how != "error" {
				m.leave(d)
				return
			}
			m.rec(impl.RecCatch, c.fn, node.Line, m.told(d.vals[0]))
			m.block(c, m.node(c, node.Kids[1]), c.declare(node.Refs, []impl.Value{d.vals[0], str(d.trace)}))
		}})
		m.block(c, m.node(c, node.Kids[0]), nil)
	case impl.NWhile:
		var turn func()
		turn = func() {
			m.tick()
			m.one(c, node.Kids[0], nil, func(v impl.Value) {
				if !impl.Truth(v) {
					m.give()
					return
				}
				m.turn(c, node, nil, nil, turn)
			})
		}
		turn()
	case impl.NFor:
		m.row(c, node.Kids[:3], false, nil, func(v []impl.Value) { m.count(c, node, v) })
	case impl.NEach:
		m.one(c, node.Kids[0], nil, func(v impl.Value) { m.each(c, node, v) })
	}
}

func (c *opened) declare(refs []int, vals []impl.Value) []*holder {
	var made []*holder
	for i, v := range refs {
		c.vars[v] = &holder{v, nthValue(vals, i)}
		made = append(made, c.vars[v])
	}
	return made
}

// assigned is the row of values for so many variables or targets.
func (m *runModel) assigned(c *opened, many int, kids []int, needs []impl.Value, then func([]impl.Value)) {
	if many == 1 && len(kids) == 1 {
		m.row(c, kids, false, needs, then)
		return
	}
	m.list(c, kids, needs, then)
}

func (m *runModel) targets(c *opened, node impl.Node) {
	many := int(node.Num)
	var parts []int
	for _, kid := range node.Kids[:many] {
		parts = append(parts, m.node(c, kid).Kids...)
	}
	m.row(c, parts, false, nil, func(found []impl.Value) {
		m.assigned(c, many, node.Kids[many:], found, func(vals []impl.Value) {
			for len(vals) < many {
				vals = append(vals, impl.Value{})
			}
			m.fill(c, node.Kids[:many], found, vals[:many])
		})
	})
}

// fill gives the first target its value, and then the others.
func (m *runModel) fill(c *opened, kids []int, parts, vals []impl.Value) {
	if len(kids) == 0 {
		m.give()
		return
	}
	target := m.node(c, kids[0])
	switch target.Kind {
	case impl.NVar:
		c.vars[target.Refs[0]].v = vals[0]
	case impl.NUp:
		c.ups[target.Refs[0]].v = vals[0]
	default:
		needs := slices.Concat(parts[2:], vals[1:])
		m.writeAt(parts[0], parts[1], vals[0], 0, needs, func() { m.fill(c, kids[1:], parts[2:], vals[1:]) })
		return
	}
	m.fill(c, kids[1:], parts, vals[1:])
}

// turn does the NBlock of a loop, which is its last kid.
func (m *runModel) turn(c *opened, node impl.Node, needs, vals []impl.Value, again func()) {
	m.push(&todo{needs: needs, got: func([]impl.Value) { again() }, left: func(d departure) {
		switch d.how {
		case "break":
			m.give()
		case "next":
			again()
		default:
			m.leave(d)
		}
	}})
	m.block(c, m.node(c, node.Kids[len(node.Kids)-1]), c.declare(node.Refs, vals))
}

func (m *runModel) count(c *opened, node impl.Node, v []impl.Value) {
	ints := true
	for _, x := range v {
		if x.Kind != impl.KInt && x.Kind != impl.KFlt {
			m.fail(impl.ErrType)
			return
		}
		ints = ints && x.Kind == impl.KInt
	}
	if !ints {
		for i := range v {
			if v[i].Kind == impl.KInt {
				v[i] = float(float64(v[i].Num))
			}
		}
	}
	order := impl.Compare(v[2], number(0))
	if order == 0 || order == 2 {
		m.fail(impl.ErrStep)
		return
	}
	var turn func(impl.Value)
	turn = func(x impl.Value) {
		if past := impl.Compare(x, v[1]); past == order || past == 2 {
			m.give()
			return
		}
		m.tick()
		m.turn(c, node, nil, []impl.Value{x}, func() {
			next := impl.Binary(impl.OpAdd, x, v[2]).Value
			if ints && impl.Compare(next, x) != order {
				m.give()
				return
			}
			turn(next)
		})
	}
	turn(v[0])
}

func (m *runModel) each(c *opened, node impl.Node, v impl.Value) {
	h := m.handler(v, "each")
	if v.Kind == impl.KTable && isNil(h) {
		m.eachPair(c, node, v, 0)
		return
	}
	over := func(f impl.Value) {
		if f.Kind != impl.KFn && f.Kind != impl.KBuiltin {
			m.fail(impl.ErrType)
			return
		}
		m.eachCall(c, node, f)
	}
	m.ask(h, []impl.Value{v}, over, func() { over(v) })
}

func (m *runModel) eachPair(c *opened, node impl.Node, v impl.Value, turn int) {
	found := impl.After(m.tables[v.Ref].Table, turn)
	if !found.Found {
		m.give()
		return
	}
	m.tick()
	p := found.Pair
	m.turn(c, node, []impl.Value{v}, []impl.Value{p.Key, p.Val}, func() { m.eachPair(c, node, v, p.Turn) })
}

func (m *runModel) eachCall(c *opened, node impl.Node, f impl.Value) {
	m.tick()
	m.push(&todo{needs: []impl.Value{f}, got: func(vals []impl.Value) {
		if isNil(firstValue(vals)) {
			m.give()
			return
		}
		m.turn(c, node, []impl.Value{f}, vals, func() { m.eachCall(c, node, f) })
	}})
	m.call(f, nil, 0)
}
