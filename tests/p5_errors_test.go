package tests

import (
	"fmt"
	"testing"

	"loop.example/meaning/impl"
)

// Every code that chapter 4 names: the record, with its line, the entries of
// the error, and its trace.
func TestP5ErrorCodes(t *testing.T) {
	for _, c := range []struct {
		code int
		text string
	}{
		{impl.ErrType, `let x = nil + 1`},
		{impl.ErrType, `for i = 1, nil, 1 {}`},
		{impl.ErrType, `each k in 1 {}`},
		{impl.ErrZero, `let x = 1 // 0`},
		{impl.ErrRange, `let x = 1 << - 1`},
		{impl.ErrLong, `let x = long .. "x"`},
		{impl.ErrLong, `print(long, 1)`},
		{impl.ErrKey, `let x = {[nil]: 1}`},
		{impl.ErrKey, `full[nil] = 1`},
		{impl.ErrCall, `nil()`},
		{impl.ErrIndex, `let x = nil[1]`},
		{impl.ErrDepth, `deep()`},
		{impl.ErrCells, `let f = fn() { return long, full, deep }`},
		{impl.ErrTask, `yield()`},
		{impl.ErrTask, `resume(over)`},
		{impl.ErrTask, `giveup(over)`},
		{impl.ErrLoop, `full()`},
		{impl.ErrArgs, `task(print)`},
		{impl.ErrArgs, `setkind(1)`},
		{impl.ErrStep, `for i = 1, 2, 0 {}`},
	} {
		in := lots()
		in.Args, in.Depth, in.Cells = []string{long(impl.MaxStr)}, 4, 10
		text := `let long = (...)
			let full = {}
			setkind(full, full)
			full.call = full
			let over = task(fn() {})
			resume(over)
			let deep
			deep = fn deep(n) { deep(1) }
			collect()
			let f = fn f() {
			  ` + c.text + `
			}
			try {
			  f()
			} catch e, s {
			  print(e.code, e.line, s)
			  each k, v in e { print(k, v) }
			}`
		r := run(t, unitFrom(text), in)
		trace, line := "f:11 main:14", "11"
		if c.code == impl.ErrDepth {
			trace, line = "deep:8 deep:8 f:11 main:14", "8"
		}
		want := fmt.Sprintf("[%d %s %s code %d line %s]", c.code, line, trace, c.code, line)
		if got := fmt.Sprint(printed(r)); r.Code != 0 || got != want {
			t.Errorf("%s:\n%s\nwant the prints %s", c.text, told(r), want)
		}
		throws := recordsOf(r, impl.RecThrow, impl.RecCatch)
		told := fmt.Sprint("error ", c.code)
		if len(throws) != 2 || throws[0].Text != told || fmt.Sprint(throws[0].Line) != line || throws[1] != (impl.Rec{Kind: impl.RecCatch, Line: 13, Text: told}) {
			t.Errorf("%s: the records are %v", c.text, throws)
		}
	}
}

// How an error is told: by an int at code, else by the Text of its value.
func TestP5Told(t *testing.T) {
	for value, told := range map[string]string{
		`1`: "1", `"s"`: "s", `nil`: "nil", `2.5`: "5p-1", `fn() {}`: "fn", `print`: "builtin", `task(fn() {})`: "task",
		`{}`: "table", `{code: 7}`: "error 7", `{code: - 7}`: "error -7", `{code: 7.0}`: "table", `{code: "7"}`: "table",
		`setkind({}, {index: {code: 7}})`: "table",
	} {
		wantEnd(t, `throw `+value, lots(), told, "main:1")
		r := run(t, unitFrom(`try { throw `+value+` } catch e, s { }`), lots())
		for _, x := range recordsOf(r, impl.RecThrow, impl.RecCatch) {
			if x.Text != told || x.Line != 1 {
				t.Errorf("throw %s: the record %v", value, x)
			}
		}
	}
	// It is told anew at each record.
	wantReport(t, `let e = {code: 1}
		try {
		  defer rawset(e, "code", 2)
		  throw e
		} catch x, s { rawset(e, "code", nil) }
		throw e`, lots(), `
		line 0.0:1
		line 0.0:2
		line 0.0:3
		line 0.0:4
		throw 0.0:4 error 1
		catch 0.0:2 error 2
		line 0.0:5
		line 0.0:6
		throw 0.0:6 table
		code 1, ticks 8, made 2, table at main:6`)
}

// The innermost try of the task in whose first block it was thrown.
func TestP5Catching(t *testing.T) {
	wantPrints(t, `
		let f f = fn f(n) { if n == 0 { throw "deep" } f(n - 1) }
		try {
		  try { f(2) } catch e, s { print("inner", e, s) throw "again" }
		} catch e, s { print("outer", e, s) }
		try { try { throw 1 } catch e, s { } print("on") } catch e, s { print("no") }
		let g = fn() { try { throw 5 } catch e, s { return e + 1 } }
		print(g())
		while true { try { throw 1 } catch e, s { break } }
		try { throw nil } catch e, s { print(e, s) }`, lots(),
		"inner deep f:2 f:2 f:2 main:4", "outer again main:4", "on", "6", "nil main:10")
	// A trace is made anew where the same value is thrown again.
	wantPrints(t, `
		let e1
		try { throw {} } catch e, s { e1 = e print(s) }
		try {
		  throw e1
		} catch e, s { print(s, e == e1) }`, lots(), "main:3", "main:5 true")
	// An unnamed fn is told as fn.
	wantPrints(t, `try { fn() { fn g() { nil() }() }() } catch e, s { print(s) }`, lots(), "g:1 fn:1 main:1")
}

// The statement at hand: within loops behind their blocks, within conditions,
// and while handlers are called.
func TestP5StatementAtHand(t *testing.T) {
	wantReport(t, `let i = 0
		try {
		  while i < 2 or
		      nil[1] {
		    i = i + 1
		    {
		      let x = 1
		    }
		  }
		} catch e, s { print(e.line, s) }`, lots(), `
		line 0.0:1
		line 0.0:2
		line 0.0:3
		line 0.0:5
		line 0.0:7
		line 0.0:5
		line 0.0:7
		throw 0.0:3 error 7
		catch 0.0:2 error 7
		line 0.0:10
		print 0.0:10 3 main:3
		code 0, ticks 12, made 0`)
	wantPrints(t, `
		let n = 0
		let f = fn() { n = n + 1 if n > 1 { throw "f" } return n }
		try {
		  each x in f {
		    print(x)
		  }
		} catch e, s { print(s) }
		try {
		  if true {
		    let a = 1
		  }
		  nil()
		} catch e, s { print(e.line) }
		try {
		  if false {
		  } else if nil[1] {
		  }
		} catch e, s { print(e.line) }
		try {
		  let k = {
		    a: 1,
		    b: nil()}
		} catch e, s { print(e.line) }
		let t = setkind({}, {index: fn h() {
		  throw 1
		}})
		try {
		  print(
		    t.x)
		} catch e, s { print(s) }`, lots(), "1", "fn:3 main:5", "13", "17", "21", "h:26 main:29")
	// While a defer is run it is the defer's; behind it, what it was.
	wantPrints(t, `
		let where = fn where() { try { throw 1 } catch e, s { print(s) } }
		let f = fn f() {
		  defer where()
		  {
		    defer where()
		    where()
		  }
		  while true {
		    defer where()
		    break
		  }
		  where()
		}
		f()
		try {
		  defer where()
		  nil()
		} catch e, s {
		  where()
		}
		where()`, lots(),
		"where:2 f:7 main:15", "where:2 f:6 main:15", "where:2 f:10 main:15", "where:2 f:13 main:15", "where:2 f:4 main:15",
		"where:2 main:17", "where:2 main:20", "where:2 main:22")
	// A loop's condition behind a block that had defers, and that an error left.
	wantPrints(t, `
		let n = 0
		let where = fn() { n = n + 1 try { throw 1 } catch e, s { print(s) } return n < 3 }
		while where() {
		  try {
		    defer print("d")
		    throw 1
		  } catch e, s {
		    let x = 1
		  }
		}`, lots(), "fn:3 main:4", "d", "fn:3 main:4", "d", "fn:3 main:4")
}

// Defers of a block are run however it is left, the last one first, with what
// they have kept.
func TestP5Defers(t *testing.T) {
	wantPrints(t, `
		let x = 1
		{
		  defer print("first", x)
		  x = 2
		  defer print("second", x)
		  x = 3
		  print("body", x)
		}
		for i = 1, 3, 1 {
		  defer print("turn", i)
		  if i == 1 { next }
		  if i == 2 { break }
		  print("never")
		}
		if true { defer print("if") }
		try { defer print("try") } catch e, s { }
		try { throw 1 } catch e, s { defer print("catch", e) print("in") }
		let f = fn() { defer print("f") return print("values") }
		f()
		each k in {a: 1} { defer print("each", k) }
		while true { defer print("while") break }
		print("last")
		defer print("text")`, lots(),
		"body 3", "second 2", "first 1", "turn 1", "turn 2", "if", "try", "in", "catch 1", "values", "f", "each a", "while", "last", "text")
	// Only those that were met; each time they are met.
	wantPrints(t, `
		let f = fn(n) {
		  defer print("a")
		  if n == 1 { return }
		  defer print("b")
		  if n == 2 { nil() }
		  defer print("c")
		}
		f(1) print("-")
		try { f(2) } catch e, s { print(e.code) }
		f(3)`, lots(), "a", "-", "b", "a", "6", "c", "b", "a")
	// What is deferred can be anything that can be called, and what can't fails then.
	wantPrints(t, `
		try {
		  defer print("goes on")
		  defer nil(1, 2)
		  defer setkind({}, {call: print})(1)
		  print("body")
		} catch e, s { print(e.code, e.line) }`, lots(), "body", "table 1", "goes on", "6 4")
	// A defer is a call: a tick, but no statement begins.
	wantReport(t, `defer print(1)
		defer fn d() { }()`, lots(), `
		line 0.0:1
		line 0.0:2
		call 0.1:2 d
		back 0.1:0
		print 0.0:1 1
		code 0, ticks 4, made 1`)
	in := lots()
	in.Ticks = 3
	wantReport(t, `defer print(1)
		defer fn d() { }()`, in, `
		line 0.0:1
		line 0.0:2
		call 0.1:2 d
		back 0.1:0
		code 2, ticks 3, made 1`)
}

// An error that leaves a defer takes the place of the way in which the block
// was being left.
func TestP5ErrorsThatLeaveDefers(t *testing.T) {
	const prelude = `let bad = fn bad(x) { throw x } `
	wantPrints(t, prelude+`
		try { defer bad("d1") defer bad("d2") throw "body" } catch e, s { print(e, s) }
		let f = fn f() { defer bad("instead of a return") return 1 }
		try { print(f()) } catch e, s { print(e, s) }
		try { while true { defer bad("instead of a break") break } print("no") } catch e, s { print(e) }
		try { for i = 1, 2, 1 { defer bad("instead of a next") print(i) next } } catch e, s { print(e) }
		try { { defer bad("instead of the end") } print("no") } catch e, s { print(e) }
		let g = fn g() { { defer bad("inner") return 1 } }
		try { defer print("outer") print(g()) } catch e, s { print(e, s) }`, lots(),
		"d1 bad:1 main:2", "instead of a return bad:1 f:3 main:4",
		"instead of a break", "1", "instead of a next", "instead of the end", "outer", "inner bad:1 g:8 main:9")
	// The others of the block are run nevertheless; the record of the call says error.
	wantReport(t, `let f = fn f() {
		  defer print("last")
		  defer fn bad() { throw "b" }()
		  return 1
		}
		try { f() } catch e, s { print(e, s) }`, lots(), `
		line 0.0:1
		line 0.0:6
		line 0.0:6
		call 0.1:1 f
		line 0.1:2
		line 0.1:3
		line 0.1:4
		call 0.2:3 bad
		line 0.2:3
		throw 0.2:3 b
		back 0.2:0 error
		print 0.1:2 last
		back 0.1:0 error
		catch 0.0:6 b
		line 0.0:6
		print 0.0:6 b bad:3 f:3 main:6
		code 0, ticks 12, made 2`)
	// What is caught within a defer does not leave it.
	wantPrints(t, `
		let careful = fn() { try { throw "inside" } catch e, s { print("caught", e) } }
		try { defer careful() throw "outside" } catch e, s { print(e) }
		let f = fn() { defer careful() return 1, 2 }
		print(f())`, lots(), "caught inside", "outside", "caught inside", "1 2")
	// A defer of a defer.
	wantPrints(t, prelude+`
		let f = fn() { defer bad("f's own") bad("f") }
		try { defer f() throw "body" } catch e, s { print(e) }`, lots(), "f's own")
}
