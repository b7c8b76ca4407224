package tests

import (
	"strings"
	"testing"
)

// Whole reports: a task that yields and ends, one that fails, one that is given
// up.
func TestP5Turns(t *testing.T) {
	wantReport(t, `let t = task(fn f(a, ...) {
		  print(a, ...)
		  let x, y = yield("out", a)
		  return x, y
		})
		print(resume(t, 1, 2))
		print(resume(t, 3, 4))
		print(status(t))`, lots(), `
		line 0.0:1
		line 0.0:6
		turn 1.0:0 resume
		call 1.1:1 f
		line 1.1:2
		print 1.1:2 1 2
		line 1.1:3
		turn 0.0:0 yield
		print 0.0:6 true out 1
		line 0.0:7
		turn 1.0:0 resume
		line 1.1:4
		back 1.1:0
		turn 0.0:0 done
		print 0.0:7 true 3 4
		line 0.0:8
		print 0.0:8 done
		code 0, ticks 17, made 2`)
	wantReport(t, `let t = task(fn f() {
		  defer print("d")
		  throw "x"
		})
		print(resume(t))`, lots(), `
		line 0.0:1
		line 0.0:5
		turn 1.0:0 resume
		call 1.1:1 f
		line 1.1:2
		line 1.1:3
		throw 1.1:3 x
		print 1.1:2 d
		back 1.1:0 error
		turn 0.0:0 error
		print 0.0:5 false x f:3
		code 0, ticks 9, made 2`)
	wantReport(t, `let t = task(fn f() {
		  defer print("d", status(task(fn() {})))
		  try {
		    fn g() {
		      defer print("g")
		      yield()
		      print("never")
		    }()
		  } catch e, s { print("never") }
		})
		resume(t)
		print(giveup(t))
		print(status(t))`, lots(), `
		line 0.0:1
		line 0.0:11
		turn 1.0:0 resume
		call 1.1:1 f
		line 1.1:2
		line 1.1:3
		line 1.1:4
		call 1.3:4 g
		line 1.3:5
		line 1.3:6
		turn 0.0:0 yield
		line 0.0:12
		turn 1.0:0 giveup
		print 1.3:5 g
		back 1.3:0 gone
		print 1.1:2 d new
		back 1.1:0 gone
		turn 0.0:0 gone
		print 0.0:12 true
		line 0.0:13
		print 0.0:13 done
		code 0, ticks 22, made 5`)
}

func TestP5States(t *testing.T) {
	wantPrints(t, `
		let outer, inner
		inner = task(fn() {
		  print(status(outer), status(inner))
		  yield()
		})
		outer = task(fn() {
		  print(status(outer), status(inner))
		  resume(inner)
		  print(status(inner))
		  yield()
		})
		print(status(outer), status(inner))
		resume(outer)
		print(status(outer), status(inner))
		resume(inner) resume(outer)
		print(status(outer), status(inner))
		let fails = task(fn() { throw 1 })
		resume(fails)
		print(status(fails))`, lots(), "new new", "running new", "busy running", "waiting", "waiting waiting", "done done", "done")
	// Only what is new or waiting can be resumed or given up.
	wantPrints(t, `
		let outer, inner
		let try1 = fn(f, x) { try { f(x) } catch e, s { print(e.code) } }
		inner = task(fn() { try1(resume, outer) try1(giveup, outer) try1(resume, inner) try1(giveup, inner) })
		outer = task(fn() { resume(inner) })
		resume(outer)
		print("done")
		try1(resume, outer) try1(giveup, outer)
		let given = task(fn() { yield() })
		resume(given) giveup(given)
		try1(resume, given) try1(giveup, given)`, lots(), "10", "10", "10", "10", "done", "10", "10", "10", "10")
	// Giving up a new task is no turn.
	wantReport(t, `let t = task(fn() { print("never") })
		return giveup(t), status(t)`, lots(), `
		line 0.0:1
		line 0.0:2
		code 0, ticks 5, made 2, gives true done`)
}

// Values go both ways.
func TestP5YieldedValues(t *testing.T) {
	wantPrints(t, `
		let t = task(fn(...) {
		  print("got", ...)
		  print("got", yield())
		  print("got", yield(nil, 1))
		  return nil, 2
		})
		print(resume(t, 1, nil, 3))
		print(resume(t))
		print(resume(t, nil))
		try { resume(t) } catch e, s { print(e.code) }`, lots(),
		"got 1 nil 3", "true", "got", "true nil 1", "got nil", "true nil 2", "10")
}

// A task yields wherever it stands.
func TestP5YieldOutOfDepths(t *testing.T) {
	wantPrints(t, `
		let t = task(fn() {
		  let walk
		  walk = fn(n) { if n > 0 { walk(n - 1) yield(n) walk(n - 1) } }
		  walk(3)
		  return "end"
		})
		let row = ""
		while status(t) != "done" {
		  let ok, n = resume(t)
		  row = row .. n
		}
		print(row)`, lots(), "1213121end")
	// Out of a handler, a loop's fn, a defer and a table.
	wantPrints(t, `
		let t = task(fn() {
		  let v = setkind({}, {add: fn(a, b) { return yield("add") }}) + 1
		  print("v", v)
		  each x in fn() { return yield("each") } { print("x", x) }
		  { defer yield("defer") }
		  let q = {a: yield("a"), b: yield("b"), 1: *yield("list")}
		  print(q.a, q.b, q[1], q[2])
		})
		print(resume(t)) print(resume(t, 5)) print(resume(t, 6)) print(resume(t))
		print(resume(t)) print(resume(t, 7)) print(resume(t, 8)) print(resume(t, 9, 10))`, lots(),
		"true add", "v 5", "true each", "x 6", "true each", "true defer", "true a", "true b", "true list", "7 8 9 10", "true")
}

// Where there is nobody to yield to.
func TestP5YieldRefused(t *testing.T) {
	wantEnd(t, `yield()`, lots(), "error 10", "main:1")
	wantEnd(t, `let f = fn f() { yield() } f()`, lots(), "error 10", "f:1 main:1")
	// In a task that is being given up.
	wantPrints(t, `
		let t = task(fn() {
		  defer fn() { try { yield(1) } catch e, s { print("refused", e.code) } }()
		  yield()
		})
		resume(t)
		print(giveup(t))`, lots(), "refused 10", "true")
	// While a last word is spoken that was begun in this task; in others it goes.
	wantPrints(t, `
		let other = task(fn() { yield("from the other") })
		let t = task(fn() {
		  setkind({}, {last: fn() {
		    print(resume(other))
		    try { yield() } catch e, s { print("refused", e.code) }
		  }})
		  collect()
		  yield("behind it")
		})
		print(resume(t))`, lots(), "true from the other", "refused 10", "true behind it")
	// Also where an error has left a last word ahead of it.
	wantPrints(t, `
		let t = task(fn() {
		  setkind({}, {last: fn() { throw 1 }})
		  collect()
		  yield("goes")
		})
		print(resume(t))`, lots(), "true goes")
}

func TestP5GivingUp(t *testing.T) {
	// An error on its way is let go of; so are a return, a break and a next.
	for _, way := range []string{`throw "on its way"`, `return 1`, `if true { return 1 }`} {
		wantPrints(t, `
			let t = task(fn() {
			  defer print("outer")
			  try {
			    defer fn() { defer print("inner") yield() print("never") }()
			    `+way+`
			  } catch e, s { print("never") }
			  print("never")
			})
			resume(t)
			print(giveup(t))`, lots(), "inner", "outer", "true")
	}
	for _, way := range []string{"break", "next"} {
		wantPrints(t, `
			let t = task(fn() {
			  for i = 1, 3, 1 { defer fn() { yield() }() `+way+` }
			  print("never")
			})
			resume(t)
			print(giveup(t))`, lots(), "true")
	}
	// Errors that leave a defer are dropped, the last one is told.
	wantReport(t, `let t = task(fn f() {
		  defer print("end")
		  defer fn a() { throw {code: 5} }()
		  try {
		    defer fn b() { throw "b" }()
		    yield()
		  } catch e, s { print("never") }
		})
		resume(t)
		let ok, e, s = giveup(t)
		print(ok, e.code, s, status(t))`, lots(), `
		line 0.0:1
		line 0.0:9
		turn 1.0:0 resume
		call 1.1:1 f
		line 1.1:2
		line 1.1:3
		line 1.1:4
		line 1.1:5
		line 1.1:6
		turn 0.0:0 yield
		line 0.0:10
		turn 1.0:0 giveup
		call 1.3:5 b
		line 1.3:5
		throw 1.3:5 b
		back 1.3:0 error
		call 1.2:3 a
		line 1.2:3
		throw 1.2:3 error 5
		back 1.2:0 error
		print 1.1:2 end
		back 1.1:0 gone
		turn 0.0:0 gone
		line 0.0:11
		print 0.0:11 false 5 a:3 f:3 done
		code 0, ticks 21, made 6`)
	// What is caught inside a defer is not dropped, and its call ends as calls do.
	wantReport(t, `let t = task(fn f() {
		  defer fn d() { try { throw 1 } catch e, s { print(e) } }()
		  yield()
		})
		resume(t)
		print(giveup(t))`, lots(), `
		line 0.0:1
		line 0.0:5
		turn 1.0:0 resume
		call 1.1:1 f
		line 1.1:2
		line 1.1:3
		turn 0.0:0 yield
		line 0.0:6
		turn 1.0:0 giveup
		call 1.2:2 d
		line 1.2:2
		line 1.2:2
		throw 1.2:2 1
		catch 1.2:2 1
		line 1.2:2
		print 1.2:2 1
		back 1.2:0
		back 1.1:0 gone
		turn 0.0:0 gone
		print 0.0:6 true
		code 0, ticks 16, made 3`)
	// A task that is being given up can let others run, and can be seen to be at it.
	wantPrints(t, `
		let t, u
		u = task(fn() { print(status(t), status(u)) yield("u") })
		t = task(fn() { defer fn() { print(status(t), resume(u)) print(giveup(u)) }() yield() })
		resume(t)
		print(giveup(t), status(t), status(u))`, lots(), "busy running", "running true u", "true", "true done done")
	// Within loops, expressions and defers that wait: all is left.
	wantPrints(t, `
		let t = task(fn() {
		  defer print("a")
		  each k in {a: 1, b: 2} {
		    defer print("b", k)
		    let x = {1: yield(1) + 5, 2: print("never")}
		  }
		})
		resume(t)
		print(giveup(t))`, lots(), "b a", "a", "true")
}

// An error in a task has the trace of the task's own calls.
func TestP5TracesOfTasks(t *testing.T) {
	wantPrints(t, `
		let g = fn g() { nil() }
		let f = fn f() { g() }
		let h = fn h() { return resume(task(f)) }
		let ok, e, s = h()
		print(ok, e.line, s)`, lots(), "false 2 g:2 f:3")
	// What leaves a task is not thrown where it was resumed.
	wantPrints(t, `
		try { print(resume(task(fn() { throw "x" }))) print("on") } catch e, s { print("never") }`, lots(), "false x fn:2", "on")
}

// What waits when the text ends is never heard of again.
func TestP5WhatWaits(t *testing.T) {
	wantReport(t, `let t = task(fn() { defer print("never") yield() })
		resume(t)
		return 1`, lots(), `
		line 0.0:1
		line 0.0:2
		turn 1.0:0 resume
		call 1.1:1
		line 1.1:1
		line 1.1:1
		turn 0.0:0 yield
		line 0.0:3
		code 0, ticks 9, made 2, gives 1`)
}

// MaxTasks tasks can be made, whatever became of them.
func TestP5Tasks(t *testing.T) {
	wantPrints(t, `
		let f = fn() {}
		for i = 1, 100, 1 { resume(task(f)) }
		collect()
		try { task(f) } catch e, s { print(e.code) }
		try { task(1) } catch e, s { print(e.code) }`, lots(), "10", "12")
	r := run(t, unitFrom(`let f = fn() {} for i = 1, 101, 1 { task(f) }`), lots())
	if r.Code != 1 || r.Error != "error 10" || r.Made != 101 {
		t.Error(told(r))
	}
	// Many of them at once, each waiting for the next.
	in := lots()
	wantPrints(t, `
		let f
		f = fn(n) { if n == 0 { return yield("deep") } return resume(task(f), n - 1) }
		print(resume(task(f), 50))`, in, strings.Repeat("true ", 51)+"deep")
}
