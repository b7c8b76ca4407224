package tests

import (
	"fmt"
	"strings"
)

// writer writes texts by chance: they name what is in scope, mostly as what it
// is, and much of what is thrown is caught.
type writer struct {
	s     *sequence
	out   strings.Builder
	names []written
	// left bounds how long a text becomes, depth how deep, fns how many.
	left, depth, fns int
	made             int
	inLoop, inTask   bool
}

// written is a name in scope; sort is one of n t f k x: a number, a table, a
// fn, a task, anything.
type written struct {
	name string
	sort byte
}

func writeText(s *sequence) string {
	w := &writer{s: s, fns: 40}
	for _, sort := range []byte("ttnfkk") {
		w.left = 25
		value := w.literal(sort)
		w.line("let %s = %s", w.fresh(sort), value)
	}
	for w.left = 60 + w.pick(120); w.left > 0; {
		if w.pick(3) == 0 {
			w.let()
		} else {
			w.try()
		}
	}
	return w.out.String()
}

func (w *writer) pick(n int) int { return int(w.s.next() % uint64(n)) }

func (w *writer) of(words ...string) string { return words[w.pick(len(words))] }

func (w *writer) line(form string, args ...any) {
	fmt.Fprintf(&w.out, form+"\n", args...)
}

func (w *writer) fresh(sort byte) string {
	w.made++
	name := fmt.Sprintf("%c%d", sort, w.made)
	w.names = append(w.names, written{name, sort})
	return name
}

// known is a name of the sort, or nothing.
func (w *writer) known(sort byte) string {
	var fit []string
	for _, n := range w.names {
		if n.sort == sort || sort == 'x' {
			fit = append(fit, n.name)
		}
	}
	if len(fit) == 0 {
		return ""
	}
	if w.pick(2) == 0 {
		return fit[len(fit)-1]
	}
	return fit[w.pick(len(fit))]
}

func (w *writer) any() byte { return "nntttfffkkx"[w.pick(11)] }

// value is an expression of a sort, seldom of another.
func (w *writer) value(sort byte) string {
	if w.pick(60) == 0 {
		sort = w.any()
	}
	w.left--
	if name := w.known(sort); name != "" && (w.pick(3) > 0 || w.left < 0) {
		return name
	}
	return w.literal(sort)
}

func (w *writer) literal(sort byte) string {
	switch sort {
	case 'n':
		return w.number()
	case 't':
		return w.table()
	case 'f':
		return w.fn("", "x", "x")
	case 'k':
		return "task(" + w.taskFn() + ")"
	}
	if w.left < 0 {
		return "nil"
	}
	return w.anything()
}

// key is mostly one that a table can have.
func (w *writer) key() string {
	if w.pick(12) == 0 {
		return w.value('x')
	}
	return w.of("1", "2", "3", `"a"`, `"b"`, "2.5", w.value('t'), w.value('n'))
}

func (w *writer) number() string {
	if w.left < 0 {
		return "3"
	}
	switch w.pick(8) {
	case 0:
		return w.of("0", "1", "2", "-1", "7", "2.5", "0.0", "9223372036854775807")
	case 1:
		return "(" + w.value('n') + w.of(" + ", " - ", " * ", " / ", " // ", " % ", " & ", " << ") + w.value('n') + ")"
	case 2:
		return "#" + w.value('t')
	case 3:
		return w.of("cells()", "collect()")
	case 4:
		return "- " + w.value('n')
	}
	return w.of("1", "2", "3")
}

func (w *writer) table() string {
	if w.left < 0 {
		return "{}"
	}
	switch w.pick(7) {
	case 0, 1, 2:
		return "setkind(" + w.of("{}", w.value('t'), "{a: 1}") + ", " + w.kind() + ")"
	case 3:
		return "{1: *" + w.of("...", w.call()) + "}"
	case 4:
		return fmt.Sprintf("{a: %s, [%s]: %s}", w.value('x'), w.key(), w.value('x'))
	case 5:
		return fmt.Sprintf("{1: %s, b: %s}", w.value('n'), w.value('t'))
	}
	return "{}"
}

// kind is a table with handlers.
func (w *writer) kind() string {
	if w.pick(4) == 0 {
		return w.value('t')
	}
	var parts []string
	for range 1 + w.pick(3) {
		name := w.of("index", "setindex", "call", "each", "last", "last", "last", "weak", "weak", "weak", "eq", "lt", "le", "len", "neg", "flip", "add", "sub", "join", "mod", "shl", "and")
		switch {
		case name == "weak":
			parts = append(parts, "weak: "+w.of(`"k"`, `"v"`, `"kv"`, `""`, "1"))
		case w.pick(4) == 0 && (name == "index" || name == "setindex" || name == "call"):
			parts = append(parts, name+": "+w.value('t'))
		case w.pick(3) == 0:
			parts = append(parts, name+": "+w.value('f'))
		default:
			parts = append(parts, name+": "+w.fn(name, "t", "x"))
		}
	}
	return "{" + strings.Join(parts, ", ") + "}"
}

func (w *writer) anything() string {
	switch w.pick(14) {
	case 0:
		return w.of("nil", "true", "false", `"s"`, `"k"`, `"a"`)
	case 1:
		return w.call()
	case 2:
		return "(" + w.call() + ")"
	case 3:
		return "(" + w.value('x') + w.of(" and ", " or ") + w.value('x') + ")"
	case 4:
		sort := w.of("n", "t")[0]
		return "(" + w.value(sort) + w.of(" == ", " != ", " < ", " <= ", " > ", " >= ", " .. ", " + ", " - ") + w.value(sort) + ")"
	case 5:
		return "(" + w.value(w.any()) + w.of(" == ", " != ") + w.value(w.any()) + ")"
	case 6:
		return w.of("- ", "~", "not ", "#") + w.value(w.of("n", "t")[0])
	case 7, 8:
		return "(" + w.value('t') + ")[" + w.key() + "]"
	case 9:
		return w.of("kind", "type", "text") + "(" + w.value(w.any()) + ")"
	case 10:
		return w.of("(...)", "read()", "rawget("+w.value('t')+", "+w.key()+")")
	case 11:
		return w.of(w.value('k'), "status("+w.value('k')+")")
	}
	return w.value(w.any())
}

func (w *writer) call() string {
	if w.inTask && w.pick(3) == 0 || w.pick(40) == 0 {
		return "yield(" + w.args() + ")"
	}
	switch w.pick(12) {
	case 0:
		return "(" + w.value('t') + ")(" + w.args() + ")"
	case 1, 2:
		return "resume(" + w.value('k') + ", " + w.value('x') + ")"
	case 3:
		return "giveup(" + w.value('k') + ")"
	case 4, 5:
		return "collect(" + w.value('x') + ")"
	case 6:
		return "setkind(" + w.value('t') + ", " + w.kind() + ")"
	case 7:
		return "rawset(" + w.value('t') + ", " + w.key() + ", " + w.value('x') + ")"
	case 8:
		return "print(" + w.args() + ")"
	}
	return "(" + w.value('f') + ")(" + w.args() + ")"
}

func (w *writer) args() string {
	var parts []string
	for range w.pick(3) {
		parts = append(parts, w.value('x'))
	}
	switch w.pick(5) {
	case 0:
		parts = append(parts, "...")
	case 1:
		if w.left > 0 {
			parts = append(parts, w.call())
		}
	}
	return strings.Join(parts, ", ")
}

// taskFn is a fn that yields.
func (w *writer) taskFn() string {
	before := w.inTask
	w.inTask = true
	fn := w.fn("", "x", "x")
	w.inTask = before
	if !strings.HasPrefix(fn, "fn") {
		return "fn(...) { " + w.of("yield(...)", "defer "+fn+"(cells()) yield({}, yield(...))", "return ...") + " }"
	}
	return fn
}

// fn is a fn with a body of its own, in which what is in scope outside can be
// named; it has up to two parameters of these sorts.
func (w *writer) fn(name, first, second string) string {
	if w.fns == 0 || w.left < 0 || w.depth > 3 {
		return w.of("print", "cells", "collect", "type")
	}
	w.fns--
	before, names, loop := w.out.String(), len(w.names), w.inLoop
	w.out.Reset()
	w.inLoop = false
	params := []string{w.fresh(first[0]), w.fresh(second[0])}
	if w.pick(3) == 0 {
		w.names = w.names[:len(w.names)-1]
		params[1] = "..."
	}
	w.block()
	if w.pick(2) == 0 {
		w.line("return %s", w.args())
	}
	body := w.out.String()
	w.out.Reset()
	w.out.WriteString(before)
	w.names, w.inLoop = w.names[:names], loop
	return fmt.Sprintf("fn %s(%s, ...) {\n%s}", name, strings.Join(params, ", "), body)
}

// block is a row of statements; what they declare is out of scope behind it.
func (w *writer) block(names ...written) {
	height := len(w.names)
	w.names = append(w.names, names...)
	w.depth++
	for range 1 + w.pick(4) {
		w.statement()
	}
	w.depth--
	w.names = w.names[:height]
}

func (w *writer) looped(names ...written) {
	loop := w.inLoop
	w.inLoop = true
	w.block(names...)
	w.inLoop = loop
}

func (w *writer) statement() {
	w.left--
	if w.left < 0 || w.depth > 5 || w.pick(3) > 0 {
		w.plain()
		return
	}
	switch w.pick(8) {
	case 0:
		w.line("{")
		w.block()
	case 1:
		w.line("if %s {", w.value('x'))
		w.block()
		if w.pick(2) == 0 {
			w.line("} else %s{", w.of("", "if "+w.value('x')+" "))
			w.block()
		}
	case 2:
		w.line("while %s {", w.value('x'))
		w.looped()
		if w.pick(6) > 0 {
			w.line("break")
		}
	case 3:
		from, to, step := w.value('n'), w.value('n'), w.of("1", "-1", "2", "0.5", w.value('n'))
		w.made++
		i := written{fmt.Sprint("n", w.made), 'n'}
		w.line("for %s = %s, %s, %s {", i.name, from, to, step)
		w.looped(i)
	case 4:
		over := w.value(w.of("t", "t", "t", "f")[0])
		w.made++
		k, v := written{fmt.Sprint("x", w.made), 'x'}, written{fmt.Sprint("t", w.made), 't'}
		w.line("each %s, %s in %s {", k.name, v.name, over)
		w.looped(k, v)
	default:
		w.try()
		return
	}
	w.line("}")
}

func (w *writer) try() {
	w.line("try {")
	w.block()
	w.made++
	e, trace := written{fmt.Sprint("x", w.made), 'x'}, written{fmt.Sprint("s", w.made), 'x'}
	w.line("} catch %s, %s {", e.name, trace.name)
	w.line("print(%s, %s, %s)", e.name, trace.name, w.of("1", "cells()"))
	if w.pick(3) == 0 {
		w.block(e, trace)
	}
	w.line("}")
}

// often are rows of statements that chance alone seldom writes.
func (w *writer) often() {
	switch w.pick(7) {
	case 0:
		w.line("setkind(%s, {last: %s, weak: %s})", w.of("{}", "{a: {}}", "{1: "+w.value('x')+"}"), w.fn("last", "t", "x"), w.of(`"k"`, `"v"`, "nil"))
		w.line("print(%s)", w.of("collect()", "cells()", "cells(), collect(), cells()"))
	case 1:
		w.line("(%s)[%s], (%s)[%s] = %s", w.value('t'), w.of("{}", w.value('f'), w.value('k')), w.value('t'), w.key(), w.of("{}, {}", w.value('x')+", {}", w.call()))
		w.line("print(cells(), collect())")
	case 2:
		fn := w.of(w.taskFn(), "fn(...) { defer print(cells()) yield(...) }", "fn(a) { try { defer fn() { throw a }() yield({}, yield(a)) } catch e, s { print(e, s) } }")
		w.line("let %s = task(%s)", w.fresh('k'), fn)
	case 3:
		k := w.known('k')
		if k == "" {
			k = "task(print)"
		}
		w.line("print(status(%s), resume(%s, %s))", k, k, w.value('x'))
		w.line("print(%s(%s), status(%s))", w.of("giveup", "resume"), k, k)
	case 4:
		fn := w.taskFn()
		w.line("each %s in %s {", w.fresh('x'), fn)
		w.names = w.names[:len(w.names)-1]
		w.looped()
		w.line("}")
	case 5:
		w.line("(%s)(%s)", w.value('f'), w.args())
	case 6:
		w.line("print({} == {}, %s(%s))", w.value('f'), w.of("{}, cells()", "cells(), {}, cells()"))
	}
}

func (w *writer) plain() {
	if w.pick(4) == 0 {
		w.often()
		return
	}
	switch w.pick(14) {
	case 0, 1, 2, 3:
		w.let()
	case 4:
		w.line("%s = %s", w.target(), w.value('x'))
	case 5:
		w.line("%s, %s = %s", w.target(), w.target(), w.of(w.value('x'), w.value('x')+", "+w.value('x'), w.call()))
	case 6:
		w.line("print(%s, cells())", w.value('x'))
	case 7, 8:
		w.line("defer %s", w.call())
	case 9:
		if w.inLoop && w.pick(2) == 0 {
			w.line("if %s { %s }", w.value('x'), w.of("break", "next"))
		} else if w.pick(3) == 0 {
			w.line("if %s { return %s }", w.value('x'), w.args())
		}
	case 10:
		if w.depth > 0 && w.pick(2) == 0 {
			w.line("throw %s", w.value('x'))
		}
	default:
		w.line("%s", w.call())
	}
}

func (w *writer) target() string {
	if name := w.known('x'); name != "" && w.pick(3) == 0 {
		return name
	}
	return "(" + w.value('t') + ")[" + w.key() + "]"
}

func (w *writer) let() {
	sort := w.any()
	value := w.value(sort)
	if sort == 'x' && w.pick(2) == 0 {
		call := w.call()
		w.line("let %s, %s = %s", w.fresh('x'), w.fresh('x'), call)
		return
	}
	w.line("let %s = %s", w.fresh(sort), value)
}
