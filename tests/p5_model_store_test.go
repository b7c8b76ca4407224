package tests

import (
	"strings"

	"loop.example/meaning/impl"
)

func (m *runModel) builtin(b int, args []impl.Value) {
	first, second := nthValue(args, 0), nthValue(args, 1)
	switch b {
	case impl.BPrint:
		var texts []string
		for _, a := range args {
			texts = append(texts, impl.Text(a))
		}
		text := strings.Join(texts, " ")
		if len(text) > impl.MaxStr {
			m.fail(impl.ErrLong)
			return
		}
		fn, line := m.here()
		m.rec(impl.RecPrint, fn, line, text)
		m.give()
	case impl.BRead:
		if m.read == len(m.in.Lines) {
			m.give(impl.Value{})
			return
		}
		m.read++
		m.give(str(m.in.Lines[m.read-1]))
	case impl.BType:
		m.give(str(strings.Fields("nil bool int float str table fn task fn")[first.Kind]))
	case impl.BText:
		m.give(str(impl.Text(first)))
	case impl.BCollect:
		m.collect()
	case impl.BCells:
		m.give(number(int64(m.count4_9(m.mark()))))
	case impl.BSetKind, impl.BKind, impl.BRawGet, impl.BRawSet:
		m.tableBuiltin(b, first, second, nthValue(args, 2))
	default:
		m.taskBuiltin(b, first, args)
	}
}

func (m *runModel) tableBuiltin(b int, v, second, third impl.Value) {
	if v.Kind != impl.KTable {
		if b == impl.BKind {
			m.give(impl.Value{})
		} else {
			m.fail(impl.ErrArgs)
		}
		return
	}
	t := m.tables[v.Ref]
	switch b {
	case impl.BKind:
		m.give(t.kind)
	case impl.BRawGet:
		m.give(impl.Get(t.Table, second))
	case impl.BRawSet:
		if m.putIn(v, second, third) {
			m.give()
		}
	case impl.BSetKind:
		if second.Kind != impl.KTable && !isNil(second) {
			m.fail(impl.ErrArgs)
			return
		}
		t.kind = second
		t.wants = m.handler(v, "last").Kind == impl.KFn
		m.give(v)
	}
}

func (m *runModel) taskBuiltin(b int, v impl.Value, args []impl.Value) {
	switch {
	case b == impl.BTask && v.Kind != impl.KFn:
		m.fail(impl.ErrArgs)
	case b == impl.BTask && len(m.tasks)-1 == maxTasks:
		m.fail(impl.ErrTask)
	case b == impl.BTask:
		if m.pays(1) {
			m.tasks = append(m.tasks, &modelTask{number: len(m.tasks), state: "new", fn: v})
			m.give(thing(impl.KTask, len(m.tasks)-1))
		}
	case b == impl.BYield:
		m.yield(args)
	case v.Kind != impl.KTask:
		m.fail(impl.ErrArgs)
	case b == impl.BStatus:
		m.give(str(m.tasks[v.Ref].state))
	case m.tasks[v.Ref].state != "new" && m.tasks[v.Ref].state != "waiting":
		m.fail(impl.ErrTask)
	case b == impl.BResume:
		m.resume(m.tasks[v.Ref], args[1:])
	default:
		m.giveUp(m.tasks[v.Ref])
	}
}

// turnTo makes a task the running one.
func (m *runModel) turnTo(t *modelTask, text string) {
	t.state, m.now = "running", t
	m.rec(impl.RecTurn, 0, 0, text)
}

func (m *runModel) resume(t *modelTask, args []impl.Value) {
	fresh := t.state == "new"
	m.now.state, t.waiter = "busy", m.now
	m.turnTo(t, "resume")
	if !fresh {
		m.give(args...)
		return
	}
	m.push(&todo{
		got: func(vals []impl.Value) { m.goBack("done", "done", append([]impl.Value{boolean(1)}, vals...)) },
		left: func(d departure) {
			if d.how == "gone" {
				m.goBack("done", "gone", afterGivingUp(t))
				return
			}
			m.goBack("done", "error", []impl.Value{boolean(0), d.vals[0], str(d.trace)})
		}})
	m.call(t.fn, args, 0)
}

func afterGivingUp(t *modelTask) []impl.Value {
	if t.dropped == nil {
		return []impl.Value{boolean(1)}
	}
	return []impl.Value{boolean(0), t.dropped.vals[0], str(t.dropped.trace)}
}

// goBack gives the turn to the task that waits for this one.
func (m *runModel) goBack(state, text string, vals []impl.Value) {
	t := m.now
	t.state = state
	m.turnTo(t.waiter, text)
	t.waiter = nil
	m.give(vals...)
}

func (m *runModel) yield(args []impl.Value) {
	refused := m.now.number == 0 || m.now.leaving
	for _, s := range m.now.row {
		refused = refused || s.last
	}
	if refused {
		m.fail(impl.ErrTask)
		return
	}
	m.goBack("waiting", "yield", append([]impl.Value{boolean(1)}, args...))
}

func (m *runModel) giveUp(t *modelTask) {
	if t.state == "new" {
		t.state = "done"
		m.give(boolean(1))
		return
	}
	m.now.state, t.waiter, t.leaving = "busy", m.now, true
	m.turnTo(t, "giveup")
	m.leave(departure{how: "gone"})
}

// found is what is reached; the value is not used.
type found map[impl.Value]int

// mark adds what is reached until there is nothing to add.
func (m *runModel) mark() found {
	f := found{}
	for t := m.now; t != nil; t = t.waiter {
		f[thing(impl.KTask, t.number)] = 1
	}
	for before := -1; before != len(f); {
		before = len(f)
		for v := range copyOf(f) {
			for _, x := range m.from(v, f) {
				if x.Kind == impl.KTable || x.Kind == impl.KFn || x.Kind == impl.KTask {
					f[x] = 1
				}
			}
		}
	}
	return f
}

func copyOf(f found) found {
	c := found{}
	for v := range f {
		c[v] = 1
	}
	return c
}

func (f found) has(v impl.Value) bool {
	return v.Kind != impl.KTable && v.Kind != impl.KFn && v.Kind != impl.KTask || f[v] == 1
}

// from is what one thing reaches, when so much is reached already.
func (m *runModel) from(v impl.Value, f found) []impl.Value {
	var vals []impl.Value
	switch v.Kind {
	case impl.KFn:
		for _, up := range m.fns[v.Ref].ups {
			vals = append(vals, up.v)
		}
	case impl.KTable:
		t := m.tables[v.Ref]
		vals = append(vals, t.kind)
		weak := m.handler(v, "weak").Str
		for _, p := range t.Pairs {
			if !strings.Contains(weak, "k") {
				vals = append(vals, p.Key)
			}
			if !strings.Contains(weak, "v") && (!strings.Contains(weak, "k") || f.has(p.Key)) {
				vals = append(vals, p.Val)
			}
		}
	case impl.KTask:
		t := m.tasks[v.Ref]
		if t.state == "new" {
			return []impl.Value{t.fn}
		}
		if t.state == "done" {
			return nil
		}
		if t.dropped != nil {
			vals = append(vals, t.dropped.vals[0])
		}
		for _, s := range t.row {
			vals = append(vals, s.needs...)
			for _, x := range s.vars {
				vals = append(vals, x.v)
			}
			if s.call != nil {
				vals = append(append(vals, s.call.callee), s.call.rest...)
			}
		}
	}
	return vals
}

func (m *runModel) count4_9(f found) int {
	n := 0
	for v := range f {
		switch {
		case v.Kind == impl.KTable:
			n += 1 + len(m.tables[v.Ref].Pairs)
		case v.Kind == impl.KFn:
			n += 1 + len(m.fns[v.Ref].ups)
		case v.Ref > 0:
			n++
		}
	}
	return n
}

func (m *runModel) collect() {
	f := m.mark()
	m.loosen(f)
	var tables, needs []impl.Value
	for i, t := range m.tables {
		v := thing(impl.KTable, i)
		if f.has(v) || !t.wants {
			continue
		}
		t.wants = false
		if last := m.handler(v, "last"); last.Kind == impl.KFn {
			tables, needs = append(tables, v), append(needs, v, last)
		}
	}
	if len(tables) == 0 {
		m.lives, m.made = m.count4_9(m.mark()), 0
		m.give(number(int64(m.lives)))
		return
	}
	m.tell(tables, needs, 0)
}

func (m *runModel) loosen(f found) {
	for i, t := range m.tables {
		v := thing(impl.KTable, i)
		weak := m.handler(v, "weak").Str
		if !f.has(v) || weak == "" {
			continue
		}
		for _, p := range t.Pairs {
			if strings.Contains(weak, "k") && !f.has(p.Key) || strings.Contains(weak, "v") && !f.has(p.Val) {
				t.Table = impl.Put(t.Table, p.Key, impl.Value{})
			}
		}
	}
}

func (m *runModel) tell(tables, needs []impl.Value, i int) {
	if i == len(tables) {
		m.collect()
		return
	}
	m.rec(impl.RecLast, 0, 0, "")
	next := func() { m.tell(tables, needs, i+1) }
	m.push(&todo{needs: needs, last: true, got: func([]impl.Value) { next() }, left: func(d departure) {
		m.rec(impl.RecCatch, 0, 0, m.told(d.vals[0]))
		next()
	}})
	m.call(needs[2*i+1], []impl.Value{tables[i]}, 0)
}
