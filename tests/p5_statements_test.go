package tests

import "testing"

// Whole reports of every statement.
func TestP5Statements(t *testing.T) {
	for _, c := range []struct{ text, want string }{
		// NLet: values in order, nil where there are none, left-over ones dropped.
		{`let a, b, c = 1, 2
		print(a, b, c)
		let d = 4, 5
		let e
		print(d, e)`, `
		line 0.0:1
		line 0.0:2
		print 0.0:2 1 2 nil
		line 0.0:3
		line 0.0:4
		line 0.0:5
		print 0.0:5 4 nil
		code 0, ticks 7, made 0`},
		// NSet: variables, entries, what another fn closes over.
		{`let a, t = 1, {}
		let f = fn() {
		  a, t.x, t["y"] = 5, 6
		}
		f()
		a, t.z = t.x, a, 9
		print(a, t.x, t.y, t.z)`, `
		line 0.0:1
		line 0.0:2
		line 0.0:5
		call 0.1:2
		line 0.1:3
		back 0.1:0
		line 0.0:6
		line 0.0:7
		print 0.0:7 6 6 nil 5
		code 0, ticks 8, made 6`},
		// NIf, with a NIf as its third, which is a statement of its own.
		{`let n = 2
		if n == 1 {
		  print("one")
		} else if n == 2 {
		  print("two")
		} else {
		  print("more")
		}
		if nil { print(1) }
		if 0 { print(2) }`, `
		line 0.0:1
		line 0.0:2
		line 0.0:4
		line 0.0:5
		print 0.0:5 two
		line 0.0:9
		line 0.0:10
		line 0.0:10
		print 0.0:10 2
		code 0, ticks 9, made 0`},
		// NBlock: nothing of its own, but a scope.
		{`let a = 1
		{
		  let a = 2
		  { }
		  print(a)
		}
		print(a)`, `
		line 0.0:1
		line 0.0:3
		line 0.0:5
		print 0.0:5 2
		line 0.0:7
		print 0.0:7 1
		code 0, ticks 6, made 0`},
		// NWhile: the turn that ends it is a tick too.
		{`let i = 0
		while i < 2 {
		  i = i + 1
		}`, `
		line 0.0:1
		line 0.0:2
		line 0.0:3
		line 0.0:3
		code 0, ticks 7, made 0`},
		// NBreak and NNext, out of NBlocks within the loop's.
		{`let i = 0
		while true {
		  i = i + 1
		  { if i == 1 { next } }
		  { if i == 3 { break } }
		  print(i)
		}
		print("end", i)`, `
		line 0.0:1
		line 0.0:2
		line 0.0:3
		line 0.0:4
		line 0.0:4
		line 0.0:3
		line 0.0:4
		line 0.0:5
		line 0.0:6
		print 0.0:6 2
		line 0.0:3
		line 0.0:4
		line 0.0:5
		line 0.0:5
		line 0.0:8
		print 0.0:8 end 3
		code 0, ticks 19, made 0`},
		// NFor: only turns are ticks.
		{`for i = 1, 2, 1 {
		  print(i)
		}
		for i = 2, 1, 1 { print(i) }`, `
		line 0.0:1
		line 0.0:2
		print 0.0:2 1
		line 0.0:2
		print 0.0:2 2
		line 0.0:4
		code 0, ticks 8, made 0`},
		// NEach over a table, in the order of coming.
		{`each k, v, x in {b: 1, [2.0]: 2, a: 3} {
		  print(k, v, x)
		}`, `
		line 0.0:1
		line 0.0:2
		print 0.0:2 b 1 nil
		line 0.0:2
		print 0.0:2 2 2 nil
		line 0.0:2
		print 0.0:2 a 3 nil
		code 0, ticks 10, made 4`},
		// NEach over a fn: a turn and a call, also for the one that ends it.
		{`let i = 0
		each a, b in fn f() {
		  i = i + 1
		  if i < 2 { return i, "b", "c" }
		} {
		  print(a, b)
		}`, `
		line 0.0:1
		line 0.0:2
		call 0.1:2 f
		line 0.1:3
		line 0.1:4
		line 0.1:4
		back 0.1:0
		line 0.0:6
		print 0.0:6 1 b
		call 0.1:2 f
		line 0.1:3
		line 0.1:4
		back 0.1:0
		code 0, ticks 13, made 2`},
		// NReturn, NThrow, NTry, NDefer: the innermost first.
		{`let f = fn f() {
		  defer print("f")
		  {
		    defer print("inner 1")
		    defer print("inner 2")
		    return 7, 8
		  }
		}
		print(f())
		try {
		  defer print("try")
		  throw "x"
		} catch e, s {
		  print(e, s)
		}`, `
		line 0.0:1
		line 0.0:9
		call 0.1:1 f
		line 0.1:2
		line 0.1:4
		line 0.1:5
		line 0.1:6
		print 0.1:5 inner 2
		print 0.1:4 inner 1
		print 0.1:2 f
		back 0.1:0
		print 0.0:9 7 8
		line 0.0:10
		line 0.0:11
		line 0.0:12
		throw 0.0:12 x
		print 0.0:11 try
		catch 0.0:10 x
		line 0.0:14
		print 0.0:14 x main:12
		code 0, ticks 17, made 1`},
		// A try that nothing leaves by an error.
		{`try { print(1) } catch e, s { print(2) }
		let f = fn() { try { return 3 } catch e, s { return 4 } }
		while true { try { break } catch e, s { } }
		return f()`, `
		line 0.0:1
		line 0.0:1
		print 0.0:1 1
		line 0.0:2
		line 0.0:3
		line 0.0:3
		line 0.0:3
		line 0.0:4
		call 0.1:2
		line 0.1:2
		line 0.1:2
		back 0.1:0
		code 0, ticks 12, made 1, gives 3`},
	} {
		wantReport(t, c.text, lots(), c.want)
	}
}

// A variable is made each time its declaration is carried out.
func TestP5Variables(t *testing.T) {
	wantPrints(t, `
		let fs = {}
		for i = 1, 3, 1 {
		  let j = i * 10
		  fs[i] = fn() { j = j + 1 return i, j }
		}
		print(fs[1]()) print(fs[1]()) print(fs[3]()) print(fs[1]())`, lots(), "1 11", "1 12", "3 31", "1 13")
	wantPrints(t, `
		let f = fn(n) { let g = fn() { n = n + 1 return n } return g, fn() { return n } }
		let a, b = f(1)
		let c, d = f(10)
		a() a() c()
		print(b(), d())`, lots(), "3 11")
	wantPrints(t, `
		let i = 0
		let old
		while i < 2 {
		  let v
		  print(v)
		  v = i
		  i = i + 1
		}
		each k, v in {a: 1, b: 2} { print(old) old = v v = 9 }
		print(old)`, lots(), "nil", "nil", "nil", "1", "2")
	// What is closed over through a fn between.
	wantPrints(t, `
		let x = 1
		let f = fn() { return fn() { x = x + 1 return fn() { return x } } }
		print(f()()()) print(x)`, lots(), "2", "2")
}

func TestP5Assignments(t *testing.T) {
	// The parts of the targets, then the values, then the targets in order.
	wantPrints(t, `
		let say = fn(n, v) { print(n) return v }
		let t, u = {}, {}
		say(1, t)[say(2, "a")], say(3, u)[say(4, "b")] = say(5, 10), say(6, 20)
		print(t.a, u.b)`, lots(), "1", "2", "3", "4", "5", "6", "10 20")
	// What is indexed is what it was ahead of the values.
	wantPrints(t, `
		let t, i = {}, 1
		let old = t
		i, t[i], t = 2, "x", nil
		print(i, t, old[1], old[2])`, lots(), "2 nil x nil")
	wantPrints(t, `
		let a, b = 1, 2
		a, b = b, a
		print(a, b)
		let f = fn() { return 7, 8, 9 }
		a, b = f()
		print(a, b)
		a, b = f(), 3
		print(a, b)
		a, b = (f())
		print(a, b)
		a = f()
		print(a)`, lots(), "2 1", "7 8", "7 3", "7 nil", "7")
	// An error of the first target comes ahead of the second.
	wantPrints(t, `
		let t = {}
		try { t.a, nil[1], t.b = 1, 2, 3 } catch e, s { print(e.code, t.a, t.b) }
		try { t[nil], t.c = 1, 2 } catch e, s { print(e.code, t.c) }
		t.a = nil
		print(t.a)`, lots(), "7 1 nil", "5 nil", "nil")
}

func TestP5Counts(t *testing.T) {
	turns := func(bounds string) string { return `for i = ` + bounds + ` { print(i) }` }
	for _, c := range []struct {
		bounds string
		want   []string
	}{
		{`1, 3, 1`, []string{"1", "2", "3"}},
		{`1, 4, 2`, []string{"1", "3"}},
		{`3, 1, -2`, []string{"3", "1"}},
		{`1, 1, 5`, []string{"1"}},
		{`1, 0, 5`, nil},
		{`0, 1, -5`, nil},
		// A number that wraps ends the loop.
		{`9223372036854775806, 9223372036854775807, 1`, []string{"9223372036854775806", "9223372036854775807"}},
		{`-9223372036854775807, -9223372036854775807 - 1, -1`, []string{"-9223372036854775807", "-9223372036854775808"}},
		{`9223372036854775800, 9223372036854775807, 5`, []string{"9223372036854775800", "9223372036854775805"}},
		{`0, 9223372036854775807, 9223372036854775807`, []string{"0", "9223372036854775807"}},
		{`0, -5, -9223372036854775807 - 1`, []string{"0"}},
		// One float makes all of them floats.
		{`1, 2, 0.5`, []string{"1p0", "3p-1", "1p1"}},
		{`1.0, 2, 1`, []string{"1p0", "1p1"}},
		{`1, 2.5, 1`, []string{"1p0", "1p1"}},
		{`1, 0.0, -0.5`, []string{"1p0", "1p-1", "0p0"}},
		{`-0.0, 0, 1`, []string{"-0p0"}},
		{`9007199254740993, 9007199254740992.0, 2`, []string{"1p53"}},
		// Nothing is at most a NaN, nor a NaN at most anything.
		{`1, 0.0 / 0, 1`, nil},
		{`0.0 / 0, 1, 1`, nil},
		{`1, 3, 1.0 / 0`, []string{"1p0"}},
	} {
		wantPrints(t, turns(c.bounds), lots(), c.want...)
	}
	// Each is rounded by itself: 0.1 comes to 0.30000000000000004.
	wantPrints(t, `let n = 0 for i = 0.0, 0.3, 0.1 { n = n + 1 } print(n)`, lots(), "3")
	// The variable is made for each turn: writing it does not turn the count.
	wantPrints(t, `for i = 1, 3, 1 { let j = i i = 10 print(j) }`, lots(), "1", "2", "3")
	for bounds, code := range map[string]string{
		`1, 2, 0`: "error 14", `1, 2, 0.0`: "error 14", `1, 2, -0.0`: "error 14", `1, 2, 0.0 / 0`: "error 14",
		`1.5, 2, 0`: "error 14", `2, 1, 0`: "error 14",
		`nil, 2, 1`: "error 1", `1, "2", 1`: "error 1", `1, 2, true`: "error 1", `{}, 2, 0`: "error 1",
	} {
		wantEnd(t, turns(bounds), lots(), code, "main:1")
	}
	// All three are worked out ahead of the errors, with one value each.
	wantPrints(t, `
		let f = fn(v) { print(v) return v, 9, 9 }
		try { for i = f("a"), f(2), f(0) {} } catch e, s { print(e.code) }
		let none = fn() {}
		try { for i = 1, 2, none() {} } catch e, s { print(e.code) }
		for i = f(1), f(1), f(1) { print("turn") }`, lots(), "a", "2", "0", "1", "1", "1", "1", "1", "turn")
}

func TestP5Eaches(t *testing.T) {
	// The pair behind the last one, at this moment.
	wantPrints(t, `
		let t = {a: 1, b: 2, c: 3}
		each k, v in t {
		  print(k, v)
		  t[k] = nil
		  if v == 1 { t.b = nil t.d = 4 t.a = 5 }
		}
		each k, v in t { print("left", k, v) }`, lots(), "a 1", "c 3", "d 4", "a 5")
	wantPrints(t, `
		let t = {a: 1}
		each k in t { print(k) t.a = nil if #k < 3 { t[k .. "x"] = 1 } }`, lots(), "a", "ax", "axx")
	// NNext and NBreak; a builtin; nothing at all.
	in := lots()
	in.Lines = []string{"one", "two", "three"}
	wantPrints(t, `
		each k, v in {1: 1, 2: 2, 3: 3} { if k == 1 { next } print(k) if k == 2 { break } }
		each line, x in read { print(line, x) }
		each k in {} { print("no") }
		each k in fn() {} { print("no") }
		each k in fn() { return nil, 1 } { print("no") }`, in, "2", "one nil", "two nil", "three nil")
	// False is a value, and four variables at the most.
	wantPrints(t, `
		let n = 0
		each a, b, c, d in fn() { n = n + 1 if n < 3 { return false, n, 3, 4, 5 } } { print(a, b, c, d) }`, lots(), "false 1 3 4", "false 2 3 4")
	// A handler each is called with the table; what it gives must be a fn or a builtin.
	wantPrints(t, `
		let k = {each: fn(t, x) { print("each", t.n, x) return fn() { t.n = t.n - 1 if t.n > 0 { return t.n } }, 5 }}
		each v in setkind({n: 3}, k) { print(v) }
		each line in setkind({}, {each: fn() { return read }}) { print(line) }`, in, "each 3 nil", "2", "1", "one", "two", "three")
	for _, source := range []string{`nil`, `1`, `"s"`, `task(fn() {})`, `setkind({}, {each: fn() { return {} }})`, `setkind({}, {each: fn() {}})`, `setkind({}, {each: type})`} {
		wantEnd(t, `each k in `+source+` { print("no") }`, lots(), "error 1", "main:1")
	}
	// The error comes ahead of any turn: a tick for the statement, and that is all.
	wantReport(t, `each k in nil {}`, lots(), `
		line 0.0:1
		throw 0.0:1 error 1
		code 1, ticks 1, made 0, error 1 at main:1`)
	wantEnd(t, `each k in setkind({}, {each: 5}) {}`, lots(), "error 6", "main:1")
}
