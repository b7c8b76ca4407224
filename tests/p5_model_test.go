package tests

import (
	"slices"
	"strconv"
	"strings"

	"loop.example/meaning/impl"
)

// The model of a run is a machine without a stack of its own language: what is
// still to be done is a row of steps for each task, and each step says what it
// needs. So the statement at hand, the open calls, the scope, and what is
// reached are all read off the row. It has no goroutines and throws no panics
// but one, by which it stops.

// todo is a step that waits for what is above it in the row.
type todo struct {
	// got is done when that has given its values, left when it was left; without
	// left it is left too.
	got  func([]impl.Value)
	left func(departure)
	// needs and vars are what the step still needs, and what it has declared.
	needs []impl.Value
	vars  []*holder
	// line is that of a statement, or of the defer that is run; call is the call
	// that ends with this step; last is set for a last word.
	line int
	call *opened
	last bool
}

// holder is a variable: its number in its fn, and what it holds.
type holder struct {
	number int
	v      impl.Value
}

// opened is a call that is open.
type opened struct {
	fn     int
	callee impl.Value
	vars   map[int]*holder
	ups    []*holder
	rest   []impl.Value
}

type departure struct {
	how   string
	vals  []impl.Value
	trace string
}

type modelTable struct {
	impl.Table
	kind  impl.Value
	wants bool
}

type modelFn struct {
	fn  int
	ups []*holder
}

type modelTask struct {
	number  int
	state   string
	fn      impl.Value
	row     []*todo
	waiter  *modelTask
	leaving bool
	dropped *departure
}

type runModel struct {
	u           impl.Unit
	in          impl.Input
	r           impl.Report
	views       []impl.View
	next        func()
	tables      []*modelTable
	fns         []*modelFn
	tasks       []*modelTask
	now         *modelTask
	lives, made int
	read        int
}

type stopped struct{}

// modelRun needs a unit and an input that are valid.
func modelRun(u impl.Unit, in impl.Input) impl.Report {
	m := &runModel{u: u, in: in}
	m.run()
	return m.r
}

// modelViews has the view at each record of the same run.
func modelViews(u impl.Unit, in impl.Input) []impl.View {
	m := &runModel{u: u, in: in}
	m.run()
	return m.views
}

func (m *runModel) run() {
	defer func() {
		if e := recover(); e != nil {
			if _, ok := e.(stopped); !ok {
				panic(e)
			}
			m.r.Code = 2
		}
	}()
	m.begin()
	for m.next != nil {
		next := m.next
		m.next = nil
		next()
	}
}

func (m *runModel) begin() {
	m.now = &modelTask{state: "running"}
	m.tasks = []*modelTask{m.now}
	text := &opened{vars: map[int]*holder{}}
	if m.u.Fns[0].Rest {
		for _, a := range m.in.Args {
			text.rest = append(text.rest, str(a))
		}
	}
	m.push(&todo{call: text, got: func([]impl.Value) {}, left: func(d departure) {
		if d.how == "return" {
			for _, v := range d.vals {
				m.r.Vals = append(m.r.Vals, impl.Text(v))
			}
			return
		}
		m.r.Code, m.r.Error, m.r.Trace = 1, m.told(d.vals[0]), d.trace
	}})
	m.block(text, m.bodyOf(0), nil)
}

func (m *runModel) bodyOf(fn int) impl.Node {
	nodes := m.u.Fns[fn].Nodes
	return nodes[len(nodes)-1]
}

func (m *runModel) push(s *todo) { m.now.row = append(m.now.row, s) }

func (m *runModel) pop() *todo {
	row := m.now.row
	s := row[len(row)-1]
	m.now.row = row[:len(row)-1]
	return s
}

func (m *runModel) give(vals ...impl.Value) {
	m.next = func() { m.pop().got(vals) }
}

func (m *runModel) leave(d departure) {
	m.next = func() {
		if s := m.pop(); s.left != nil {
			s.left(d)
		} else {
			m.leave(d)
		}
	}
}

func (m *runModel) tick() {
	if m.r.Ticks == m.in.Ticks {
		panic(stopped{})
	}
	m.r.Ticks++
}

func (m *runModel) rec(kind, fn, line int, text string) {
	m.r.Recs = append(m.r.Recs, impl.Rec{Kind: kind, Task: m.now.number, Fn: fn, Line: line, Text: text})
	m.views = append(m.views, m.view())
}

// view goes down the row: what it meets belongs to the call that it meets next.
func (m *runModel) view() impl.View {
	v := impl.View{Ok: true, Task: m.now.number}
	line, vars := 0, []*holder{}
	for _, s := range slices.Backward(m.now.row) {
		if line == 0 {
			line = s.line
		}
		vars = append(vars, s.vars...)
		if s.call != nil {
			v.Calls = append(v.Calls, impl.Open{Fn: s.call.fn, Line: line, Vars: m.shown(s.call.fn, vars)})
			line, vars = 0, nil
		}
	}
	return v
}

func (m *runModel) shown(fn int, vars []*holder) []impl.Shown {
	var out []impl.Shown
	for n, name := range m.u.Fns[fn].Vars {
		for _, h := range vars {
			if h.number == n {
				out = append(out, impl.Shown{Name: name, Text: impl.Text(h.v)})
			}
		}
	}
	return out
}

// here goes down the row: the first line that it meets belongs to the first
// call that it meets.
func (m *runModel) here() (fn, line int) {
	for _, s := range slices.Backward(m.now.row) {
		if line == 0 {
			line = s.line
		}
		if s.call != nil {
			return s.call.fn, line
		}
	}
	return 0, 0
}

func (m *runModel) trace() string {
	var parts []string
	line := 0
	for _, s := range slices.Backward(m.now.row) {
		if line == 0 {
			line = s.line
		}
		if s.call != nil {
			name := m.u.Fns[s.call.fn].Name
			if name == "" {
				name = "fn"
			}
			parts = append(parts, name+":"+strconv.Itoa(line))
			line = 0
		}
	}
	return strings.Join(parts, " ")
}

func (m *runModel) told(v impl.Value) string {
	if v.Kind == impl.KTable {
		if code := impl.Get(m.tables[v.Ref].Table, str("code")); code.Kind == impl.KInt {
			return "error " + impl.Text(code)
		}
	}
	return impl.Text(v)
}

func (m *runModel) throw(v impl.Value) {
	fn, line := m.here()
	d := departure{"error", []impl.Value{v}, m.trace()}
	m.rec(impl.RecThrow, fn, line, m.told(v))
	m.leave(d)
}

func (m *runModel) fail(code int) {
	_, line := m.here()
	t := m.newTable()
	t.Table = impl.Put(impl.Put(t.Table, str("code"), number(int64(code))), str("line"), number(int64(line)))
	m.throw(thing(impl.KTable, len(m.tables)-1))
}

// pays tells whether the cells are there; if not, the error is thrown.
func (m *runModel) pays(cells int) bool {
	if m.lives+m.made+cells > m.in.Cells {
		m.fail(impl.ErrCells)
		return false
	}
	m.made += cells
	m.r.Made += cells
	return true
}

func (m *runModel) newTable() *modelTable {
	t := &modelTable{}
	m.tables = append(m.tables, t)
	return t
}

func firstValue(vals []impl.Value) impl.Value { return nthValue(vals, 0) }

func nthValue(vals []impl.Value, i int) impl.Value {
	if i < len(vals) {
		return vals[i]
	}
	return impl.Value{}
}

func isNil(v impl.Value) bool { return v.Kind == impl.KNil }

// node is one of the fn of an open call.
func (m *runModel) node(c *opened, n int) impl.Node { return m.u.Fns[c.fn].Nodes[n] }

// one works out an expression of which one value counts.
func (m *runModel) one(c *opened, n int, needs []impl.Value, then func(impl.Value)) {
	m.push(&todo{needs: needs, got: func(vals []impl.Value) { then(firstValue(vals)) }})
	m.eval(c, n)
}

// row works out expressions, the last one with all its values, if so asked.
func (m *runModel) row(c *opened, kids []int, all bool, needs []impl.Value, then func([]impl.Value)) {
	var vals []impl.Value
	var step func(int)
	step = func(i int) {
		if i == len(kids) {
			then(vals)
			return
		}
		m.push(&todo{needs: slices.Concat(needs, vals), got: func(more []impl.Value) {
			kind := m.node(c, kids[i]).Kind
			if !all || i < len(kids)-1 || kind != impl.NCall && kind != impl.NRest {
				more = []impl.Value{firstValue(more)}
			}
			vals = append(vals, more...)
			step(i + 1)
		}})
		m.eval(c, kids[i])
	}
	step(0)
}

// list is a row that must not become too long.
func (m *runModel) list(c *opened, kids []int, needs []impl.Value, then func([]impl.Value)) {
	m.row(c, kids, true, needs, func(vals []impl.Value) {
		if len(vals) > maxList {
			m.fail(impl.ErrLong)
			return
		}
		then(vals)
	})
}

func (m *runModel) eval(c *opened, n int) {
	node := m.node(c, n)
	switch node.Kind {
	case impl.NNil:
		m.give(impl.Value{})
	case impl.NTrue:
		m.give(boolean(1))
	case impl.NFalse:
		m.give(boolean(0))
	case impl.NInt:
		m.give(number(node.Num))
	case impl.NFlt:
		m.give(float(node.Flt))
	case impl.NStr:
		m.give(str(node.Str))
	case impl.NBuiltin:
		m.give(builtin(node.Num))
	case impl.NRest:
		m.give(c.rest...)
	case impl.NVar:
		m.give(c.vars[node.Refs[0]].v)
	case impl.NUp:
		m.give(c.ups[node.Refs[0]].v)
	case impl.NFn:
		m.closeOver(c, node.Refs[0])
	case impl.NOne:
		m.one(c, node.Kids[0], nil, func(v impl.Value) { m.give(v) })
	case impl.NCall:
		m.one(c, node.Kids[0], nil, func(callee impl.Value) {
			m.list(c, node.Kids[1:], []impl.Value{callee}, func(args []impl.Value) { m.call(callee, args, 0) })
		})
	case impl.NTable:
		m.tableOf(c, node)
	default:
		m.operation(c, node)
	}
}

func (m *runModel) operation(c *opened, node impl.Node) {
	switch node.Kind {
	case impl.NAnd, impl.NOr:
		m.one(c, node.Kids[0], nil, func(v impl.Value) {
			if impl.Truth(v) == (node.Kind == impl.NOr) {
				m.give(v)
			} else {
				m.one(c, node.Kids[1], nil, func(v impl.Value) { m.give(v) })
			}
		})
	case impl.NUnary:
		m.one(c, node.Kids[0], nil, func(v impl.Value) { m.unary(node.Op, v) })
	default:
		m.row(c, node.Kids, false, nil, func(v []impl.Value) {
			if node.Kind == impl.NIndex {
				m.readAt(v[0], v[1], 0)
			} else {
				m.binary(node.Op, v[0], v[1])
			}
		})
	}
}

func (m *runModel) closeOver(c *opened, fn int) {
	ups := m.u.Fns[fn].Ups
	if !m.pays(1 + len(ups)) {
		return
	}
	f := &modelFn{fn: fn}
	for _, up := range ups {
		if up.Local {
			f.ups = append(f.ups, c.vars[up.Index])
		} else {
			f.ups = append(f.ups, c.ups[up.Index])
		}
	}
	m.fns = append(m.fns, f)
	m.give(thing(impl.KFn, len(m.fns)-1))
}

func (m *runModel) tableOf(c *opened, node impl.Node) {
	if !m.pays(1) {
		return
	}
	m.newTable()
	self := thing(impl.KTable, len(m.tables)-1)
	var step func(int)
	step = func(i int) {
		switch {
		case i == len(node.Kids):
			m.give(self)
		case node.Op == 1 && i == len(node.Kids)-2:
			m.row(c, node.Kids[i+1:], true, []impl.Value{self}, func(vals []impl.Value) {
				for j, v := range vals {
					if !m.putIn(self, number(m.node(c, node.Kids[i]).Num+int64(j)), v) {
						return
					}
				}
				m.give(self)
			})
		default:
			m.row(c, node.Kids[i:i+2], false, []impl.Value{self}, func(v []impl.Value) {
				if m.putIn(self, v[0], v[1]) {
					step(i + 2)
				}
			})
		}
	}
	step(0)
}

// putIn tells whether it went without an error.
func (m *runModel) putIn(on, k, v impl.Value) bool {
	t := m.tables[on.Ref]
	comes := !isNil(v) && isNil(impl.Get(t.Table, k))
	switch {
	case impl.Key(k).Code != 0:
		m.fail(impl.ErrKey)
		return false
	case comes && len(t.Pairs) == maxPairs:
		m.fail(impl.ErrLong)
		return false
	case comes && !m.pays(1):
		return false
	}
	t.Table = impl.Put(t.Table, k, v)
	return true
}

func (m *runModel) handler(v impl.Value, name string) impl.Value {
	if v.Kind != impl.KTable || isNil(m.tables[v.Ref].kind) {
		return impl.Value{}
	}
	return impl.Get(m.tables[m.tables[v.Ref].kind.Ref].Table, str(name))
}

// ask calls a handler, if there is one.
func (m *runModel) ask(h impl.Value, args []impl.Value, then func(impl.Value), otherwise func()) {
	if isNil(h) {
		otherwise()
		return
	}
	m.push(&todo{got: func(vals []impl.Value) { then(firstValue(vals)) }})
	m.call(h, args, 0)
}

func (m *runModel) unary(op int, v impl.Value) {
	name := map[int]string{impl.OpNeg: "neg", impl.OpFlip: "flip", impl.OpLen: "len"}[op]
	done := impl.Unary(op, v)
	if done.Code == 0 {
		m.give(done.Value)
		return
	}
	m.ask(m.handler(v, name), []impl.Value{v}, func(x impl.Value) { m.give(x) }, func() {
		if op == impl.OpLen && v.Kind == impl.KTable {
			m.give(number(int64(impl.Length(m.tables[v.Ref].Table))))
		} else {
			m.fail(impl.ErrType)
		}
	})
}

func flagOf(b bool) impl.Value {
	if b {
		return boolean(1)
	}
	return boolean(0)
}

func (m *runModel) binary(op int, a, b impl.Value) {
	if op == impl.OpJoin {
		m.tick()
	}
	done := impl.Binary(op, a, b)
	first, second, name := a, b, ""
	switch op {
	case impl.OpEq, impl.OpNe:
		if a.Kind != impl.KTable || b.Kind != impl.KTable || impl.Same(a, b) {
			m.give(done.Value)
			return
		}
		name = "eq"
	case impl.OpLt, impl.OpLe:
		name = []string{"lt", "le"}[op-impl.OpLt]
	case impl.OpGt, impl.OpGe:
		first, second, name = b, a, []string{"lt", "le"}[op-impl.OpGt]
	default:
		name = strings.Fields("- add sub mul div idiv mod and or xor shl shr join")[op]
	}
	if name != "eq" && done.Code != impl.ErrType {
		if done.Code != 0 {
			m.fail(done.Code)
		} else {
			m.give(done.Value)
		}
		return
	}
	h := m.handler(first, name)
	if isNil(h) {
		h = m.handler(second, name)
	}
	m.ask(h, []impl.Value{first, second}, func(x impl.Value) {
		if op >= impl.OpEq {
			x = flagOf(impl.Truth(x) != (op == impl.OpNe))
		}
		m.give(x)
	}, func() {
		if name == "eq" {
			m.give(done.Value)
		} else {
			m.fail(impl.ErrType)
		}
	})
}

func (m *runModel) readAt(v, k impl.Value, steps int) {
	if v.Kind != impl.KTable {
		m.fail(impl.ErrIndex)
		return
	}
	if got := impl.Get(m.tables[v.Ref].Table, k); !isNil(got) {
		m.give(got)
		return
	}
	h := m.handler(v, "index")
	if h.Kind == impl.KTable {
		if steps == maxChain {
			m.fail(impl.ErrLoop)
			return
		}
		m.readAt(h, k, steps+1)
		return
	}
	m.ask(h, []impl.Value{v, k}, func(x impl.Value) { m.give(x) }, func() { m.give(impl.Value{}) })
}

// writeAt does what comes next when the entry is written.
func (m *runModel) writeAt(v, k, x impl.Value, steps int, needs []impl.Value, next func()) {
	if v.Kind != impl.KTable {
		m.fail(impl.ErrIndex)
		return
	}
	h := m.handler(v, "setindex")
	switch {
	case impl.Key(k).Code != 0:
		m.fail(impl.ErrKey)
	case isNil(h) || !isNil(impl.Get(m.tables[v.Ref].Table, k)):
		if m.putIn(v, k, x) {
			next()
		}
	case h.Kind == impl.KTable && steps == maxChain:
		m.fail(impl.ErrLoop)
	case h.Kind == impl.KTable:
		m.writeAt(h, k, x, steps+1, needs, next)
	default:
		m.push(&todo{needs: needs, got: func([]impl.Value) { next() }})
		m.call(h, []impl.Value{v, k, x}, 0)
	}
}

func (m *runModel) depth() int {
	n := 0
	for t := m.now; t != nil; t = t.waiter {
		for _, s := range t.row {
			if s.call != nil {
				n++
			}
		}
	}
	return n
}

// call gives the values of a call.
func (m *runModel) call(callee impl.Value, args []impl.Value, handlers int) {
	m.tick()
	h := m.handler(callee, "call")
	switch {
	case callee.Kind == impl.KFn && m.depth() >= m.in.Depth:
		m.fail(impl.ErrDepth)
	case callee.Kind == impl.KFn:
		m.enter(callee, args)
	case callee.Kind == impl.KBuiltin:
		m.builtin(int(callee.Num), args)
	case isNil(h):
		m.fail(impl.ErrCall)
	case handlers == maxChain:
		m.fail(impl.ErrLoop)
	default:
		m.call(h, slices.Concat([]impl.Value{callee}, args), handlers+1)
	}
}

func (m *runModel) enter(callee impl.Value, args []impl.Value) {
	f := m.fns[callee.Ref]
	fn := m.u.Fns[f.fn]
	c := &opened{fn: f.fn, callee: callee, vars: map[int]*holder{}, ups: f.ups}
	s := &todo{call: c}
	for v := range fn.Params {
		c.vars[v] = &holder{v, nthValue(args, v)}
		s.vars = append(s.vars, c.vars[v])
	}
	if fn.Rest && len(args) > fn.Params {
		c.rest = args[fn.Params:]
	}
	s.got = func([]impl.Value) { s.left(departure{how: "return"}) }
	s.left = func(d departure) {
		m.push(s) // the call is open still
		if d.how == "return" {
			m.rec(impl.RecBack, c.fn, 0, "")
			m.pop()
			m.give(d.vals...)
			return
		}
		m.rec(impl.RecBack, c.fn, 0, d.how)
		m.pop()
		m.leave(d)
	}
	m.push(s)
	m.rec(impl.RecCall, c.fn, fn.Line, fn.Name)
	m.block(c, m.bodyOf(c.fn), nil)
}
