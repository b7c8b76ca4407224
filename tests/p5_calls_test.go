package tests

import (
	"strings"
	"testing"

	"loop.example/meaning/impl"
)

func TestP5Calls(t *testing.T) {
	// Each call has variables of its own, and rest arguments of its own.
	wantPrints(t, `
		let f
		f = fn(n, ...) {
		  let mine = n
		  if n > 0 { f(n - 1, n, ...) }
		  print(mine, ...)
		}
		f(2)`, lots(), "0 1 2", "1 2", "2")
	// The record of a call has the fn's own line and name, that of its end no line.
	wantReport(t, `
		let f = fn named(a) {
		  return a
		}
		let x = f(
		  1)`, lots(), `
		line 0.0:2
		line 0.0:5
		call 0.1:2 named
		line 0.1:3
		back 0.1:0
		code 0, ticks 4, made 1`)
	for _, callee := range []string{`nil`, `true`, `1`, `"s"`, `{}`, `task(fn() {})`, `setkind({}, {call: nil})`} {
		wantEnd(t, `let x = (`+callee+`)(1)`, lots(), "error 6", "main:1")
	}
	// A call is a tick whatever is called; the arguments come ahead of it.
	wantReport(t, `nil(print(1))`, lots(), `
		line 0.0:1
		print 0.0:1 1
		throw 0.0:1 error 6
		code 1, ticks 3, made 0, error 6 at main:1`)
	in := lots()
	in.Ticks = 2
	wantReport(t, `nil(print(1))`, in, `
		line 0.0:1
		print 0.0:1 1
		code 2, ticks 2, made 0`)
}

// There are at most Depth open calls, the text among them.
func TestP5Depth(t *testing.T) {
	const text = `
		let f
		f = fn f(n) {
		  print(n)
		  f(n + 1)
		}
		f(1)`
	for _, depth := range []int{1, 2, 5, maxDepth} {
		in := lots()
		in.Depth = depth
		r := run(t, unitFrom(text), in)
		trace := strings.Repeat("f:5 ", depth-1) + "main:7"
		if r.Code != 1 || r.Error != "error 8" || r.Trace != trace || len(printed(r)) != depth-1 {
			t.Errorf("with the depth %d:\n%s", depth, told(r))
		}
	}
	// It is thrown at the caller's place, behind the tick, and can be caught there.
	in := lots()
	in.Depth = 1
	wantReport(t, `
		try {
		  fn f() {}()
		} catch e, s {
		  print(e.code, e.line, s)
		}
		print(1)`, in, `
		line 0.0:2
		line 0.0:3
		throw 0.0:3 error 8
		catch 0.0:2 error 8
		line 0.0:5
		print 0.0:5 8 3 main:3
		line 0.0:7
		print 0.0:7 1
		code 0, ticks 7, made 1`)
	// Builtins open no call.
	wantPrints(t, `print(type(text(kind(rawget({}, 1)))))`, in, "str")
	// What has ended does not count; tasks that wait for this one do.
	in.Depth = 3
	wantPrints(t, `
		let f = fn() {}
		let g = fn() { f() f() }
		g() g()
		let h = fn() { return resume(task(g)) }
		print(resume(task(g)))
		let ok, e, s = h()
		print(ok, e.code, e.line, s)
		print("end")`, in, "true", "false 8 3 fn:3", "end")
	// In a task that has just begun there is no open call at all.
	in.Depth = 1
	wantReport(t, `
		let ok, e, s = resume(task(fn() {}))
		print(ok, e.code, e.line, #s)`, in, `
		line 0.0:2
		turn 1.0:0 resume
		throw 1.0:0 error 8
		turn 0.0:0 error
		line 0.0:3
		print 0.0:3 false 8 0 0
		code 0, ticks 6, made 2`)
	// What waited can come back where there are more open calls than Depth.
	in.Depth = 4
	wantPrints(t, `
		let t = task(fn() { fn() { fn() {}() yield() print("back") try { fn() {}() } catch e, s { print(e.code) } }() })
		resume(t)
		let f = fn() { resume(t) }
		let g = fn() { f() }
		g()`, in, "back", "8")
}

// A table with a handler call is called in its place, with itself ahead.
func TestP5CallHandlers(t *testing.T) {
	wantReport(t, `
		let k = {call: fn c(self, ...) {
		  print(self.n, ...)
		  return 1, 2
		}}
		let t = setkind({n: 5}, k)
		print(t(7, 8))`, lots(), `
		line 0.0:2
		line 0.0:6
		line 0.0:7
		call 0.1:2 c
		line 0.1:3
		print 0.1:3 5 7 8
		line 0.1:4
		back 0.1:0
		print 0.0:7 1 2
		code 0, ticks 10, made 5`)
	// Through two handlers: the one that is called first stands last.
	wantPrints(t, `
		let a = setkind({n: "a"}, {call: fn(x, y, z) { print(x.n, y.n, z) }})
		let b = setkind({n: "b"}, {call: a})
		b(1)
		setkind({}, {call: print})(2)`, lots(), "a b 1", "table 2")
	// What is thrown is thrown where the call stands.
	wantEnd(t, `setkind({}, {call: 5})()`, lots(), "error 6", "main:1")
}

// chainOf makes t a table that leads to another by a handler, so many times.
func chainOf(handler string, steps int, end string) string {
	return `let t = ` + end + ` for i = 1, ` + impl.Text(number(int64(steps))) + `, 1 { t = setkind({}, {` + handler + `: t}) } `
}

// MaxChain handlers one behind the other are enough, one more is too many.
func TestP5Chains(t *testing.T) {
	wantPrints(t, chainOf("call", maxChain, "fn(...) { print(#{1: *...}) }")+`t()`, lots(), "20")
	wantEnd(t, chainOf("call", maxChain+1, "fn(...) { print(#{1: *...}) }")+`t()`, lots(), "error 11", "main:1")
	wantPrints(t, chainOf("index", maxChain, `{x: "found"}`)+`print(t.x, t.y)`, lots(), "found nil")
	wantEnd(t, chainOf("index", maxChain+1, `{x: "found"}`)+`print(t.x)`, lots(), "error 11", "main:1")
	wantPrints(t, `let last = {} `+chainOf("setindex", maxChain, `last`)+`t.x = 5 print(last.x, rawget(t, "x"))`, lots(), "5 nil")
	wantEnd(t, chainOf("setindex", maxChain+1, `{}`)+`t.x = 5`, lots(), "error 11", "main:1")
	// The step that would be due counts, whatever stands at its end.
	wantPrints(t, chainOf("index", maxChain, `setkind({}, {index: fn(v, k) { return k .. "!" }})`)+`print(t.x)`, lots(), "x!")
	wantPrints(t, chainOf("index", maxChain, `{}`)+`print(t.x)`, lots(), "nil")
	for _, loop := range []string{`t.x`, `t()`} {
		wantEnd(t, `let t = {} setkind(t, t) t.index, t.call = t, t let x = `+loop, lots(), "error 11", "main:1")
	}
	wantEnd(t, `let t = {} setkind(t, t) rawset(t, "setindex", t) t.x = 1`, lots(), "error 11", "main:1")
	// Each handler's call is a tick of its own, and the one that is too many has none.
	before := run(t, unitFrom(chainOf("call", maxChain+1, "print")), lots()).Ticks
	if r := run(t, unitFrom(chainOf("call", maxChain+1, "print")+`t()`), lots()); r.Ticks-before != 1+1+maxChain {
		t.Errorf("a chain that is too long takes %d ticks", r.Ticks-before)
	}
	before = run(t, unitFrom(chainOf("call", maxChain, "print")), lots()).Ticks
	if r := run(t, unitFrom(chainOf("call", maxChain, "print")+`t()`), lots()); r.Code != 0 || r.Ticks-before != 1+1+maxChain {
		t.Errorf("a chain takes %d ticks, code %d", r.Ticks-before, r.Code)
	}
}

// A list has at most MaxList values: met, and passed by one, wherever one is
// made.
func TestP5LongLists(t *testing.T) {
	many := func(n int) string {
		return strings.TrimSuffix(strings.Repeat("1, ", n), ", ")
	}
	// lots gives as many ones as a list may have.
	prelude := `
		let count = fn(...) { return #{1: *...} }
		let hundred = fn() { return ` + many(100) + ` }
		let more = fn() { return ` + many(100) + `, hundred() }
		let lots = fn() { return ` + many(50) + `, more() } `
	in := lots()
	for _, c := range []struct {
		text string
		want string
	}{
		{`print(count(lots()))`, "250"},
		{`print(count(1, lots()))`, "error 4"},
		{`defer count(lots()) print("ok")`, "ok"},
		{`defer count(1, lots()) print("no")`, "error 4"},
		{`let a, b = lots() print(a, b)`, "1 1"},
		{`let a, b = 1, lots() print(a, b)`, "error 4"},
		{`let a = 1, lots() print(a)`, "error 4"},
		{`let a = lots() print(a)`, "1"},
		{`let a, b a, b = 1, lots() print(a, b)`, "error 4"},
		{`let a a = 1, lots() print(a)`, "error 4"},
		{`let a, b a, b = lots() print(a, b)`, "1 1"},
		{`print(#{1: *lots()})`, "250"},
		{`print(#{1: 1, 2: *lots()})`, "251"},
		{`let g = fn() { return lots() } print(count(g()))`, "250"},
		{`let g = fn() { return 1, lots() } print(count(g()))`, "error 4"},
		{`let g = fn() { return (lots()), lots() } print(count(g()))`, "error 4"},
		{`let g = fn(...) { return 1, ... } print(count(g(lots())))`, "error 4"},
		{`let g = fn(...) { let a, b = 1, ... return b } print(g(lots()))`, "error 4"},
		// resume gives true and the values: more than a list may have, but no list.
		{`let t = resume(task(lots)) print(t)`, "true"},
		{`print(#{1: *resume(task(lots))})`, "251"},
		{`let t, u = resume(task(lots)) print(t)`, "error 4"},
		{`print(count(resume(task(lots))))`, "error 4"},
		{`each a, b in fn() { return 1, lots() } { print(a) }`, "error 4"},
		{`let n = 0 each a, b in setkind({}, {each: fn() { return fn() { n = n + 1 if n < 2 { return lots() } } }}) { print(a, b) }`, "1 1"},
		// A handler call puts one ahead: that is no list of expressions.
		{`print(setkind({}, {call: fn(...) { return #{1: *...} }})(lots()))`, "251"},
	} {
		r := run(t, unitFrom(prelude+c.text), in)
		got := strings.Join(printed(r), ";")
		if r.Code == 1 {
			got = r.Error
		}
		if got != c.want {
			t.Errorf("%s: got %q, want %q", c.text, got, c.want)
		}
	}
}
