package tests

import (
	"fmt"
	"testing"

	"loop.example/meaning/impl"
)

// Which pairs of a weak table stay. The kind of w has the letters at weak; k1
// to k3 are tables of which k1 is held.
func TestP5WeakTables(t *testing.T) {
	for _, c := range []struct{ weak, fill, want string }{
		// Weak keys: the key decides, and the value is no help to it.
		{`"k"`, `w[k1] = 1 w[k2] = 2 w[k3] = 3`, "[1]"},
		{`"k"`, `w[k2] = 2 w[k1] = 1`, "[1]"},
		{`"k"`, `w[k2] = k2 w[k3] = {a: k3}`, "[]"},
		{`"k"`, `w[k1] = {} w.a = {} w[1] = {} w[print] = {}`, "[table table table table]"},
		// A key that a value leads to, if that one's key is reached.
		{`"k"`, `w[k1] = k2 w[k2] = k3 w[k3] = 3`, "[table table 3]"},
		{`"k"`, `w[k3] = 3 w[k2] = k3 w[k1] = k2`, "[3 table table]"},
		{`"k"`, `w[k3] = 3 w[k2] = k3`, "[]"},
		{`"k"`, `let u = setkind({}, {weak: "k"}) u[k1] = k2 w[k2] = 2 w[k3] = 3`, "[2]"},
		{`"k"`, `let u = setkind({[k1]: k2}, {weak: "v"}) w[k2] = 2 w[k1] = 1`, "[1]"},
		// Weak values: the value decides, and the key is held.
		{`"v"`, `w.a = k1 w.b = k2 w.c = 3 w.d = "s" w.e = print`, "[table 3 s builtin]"},
		{`"v"`, `w[k2] = 2 w[k3] = k2`, "[2 table]"},
		{`"v"`, `w[k2] = k3`, "[]"},
		// Both.
		{`"kv"`, `w[k1] = k2 w[k2] = k1 w[k1] = 1 w.a = k3 w.b = k1`, "[1 table]"},
		{`"vk"`, `w[k1] = k2 w.b = k1`, "[table]"},
		{`"weak keys"`, `w[k2] = 2 w[k1] = 1`, "[1]"},
		// Neither: no letter, no string.
		{`""`, `w[k2] = 2 w.a = k3`, "[2 table]"},
		{`"KV"`, `w[k2] = 2`, "[2]"},
		{`7`, `w[k2] = 2`, "[2]"},
		{`nil`, `w[k2] = 2`, "[2]"},
		// Fns and tasks are things too.
		{`"k"`, `let f, g = fn() {}, task(fn() {}) w[f] = 1 w[g] = 2 w[fn() {}] = 3 w[task(f)] = 4`, "[1 2]"},
		{`"v"`, `let f, g = fn() {}, task(fn() {}) w.a, w.b, w.c, w.d = f, g, fn() {}, task(f)`, "[fn task]"},
	} {
		text := `let kind1 = {weak: ` + c.weak + `}
			let w, k1, k2, k3 = setkind({}, kind1), {}, {}, {}
			` + c.fill + `
			k2 = nil k3 = nil
			let before = cells()
			collect()
			print(before >= cells())
			each k, v in w { print(v) }`
		r := run(t, unitFrom(text), lots())
		got := printed(r)
		if r.Code != 0 || got[0] != "true" || fmt.Sprint(got[1:]) != c.want {
			t.Errorf("weak: %s, %s: has %v (code %d, %s), want %s", c.weak, c.fill, got, r.Code, r.Error, c.want)
		}
	}
}

// The counts: cells takes nothing away, and counts every pair of what is
// reached.
func TestP5CountsOfWeakTables(t *testing.T) {
	wantPrints(t, `
		let w = setkind({}, {weak: "k"})
		w[{}], w[{}] = 1, {}
		print(cells(), cells())
		print(collect())
		print(cells(), #w)`, lots(), "5 5", "3", "3 0")
	wantPrints(t, `
		let w, k = setkind({}, {weak: "k"}), {}
		w[k] = {a: 1}
		print(cells(), collect())
		k = nil
		print(cells(), collect())`, lots(), "7 7", "4 3")
	// Through the middle of a loop over it.
	wantPrints(t, `
		let w, k = setkind({}, {weak: "k"}), {}
		w[{}], w[k], w[{}], w.a = 1, 2, 3, 4
		each x, v in w { print(v) x = nil collect() }`, lots(), "1", "2", "4")
}

// What comes out of reach when weak pairs are taken out is not looked for
// again: other weak tables have it until the next collect.
func TestP5WeakPairsOfWeakPairs(t *testing.T) {
	wantPrints(t, `
		let held, w = setkind({}, {weak: "v"}), setkind({}, {weak: "k"})
		let bye = fn(x) { print("bye", x.n) }
		{ let k = setkind({n: 5}, {last: bye}) held[k] = {} w[k] = 1 }
		print("first", collect())
		each x, v in w { print("still", x.n, v) }
		print("second", collect())
		each x, v in w { print("never") }`, lots(), "first 8", "still 5 1", "bye 5", "second 7")
}

// Last words, with their records: in the order of making.
func TestP5LastWords(t *testing.T) {
	wantReport(t, `let k = {last: fn last(t) {
		  print("bye", t.n)
		  if t.n == 1 { throw {code: 5} }
		}}
		setkind({n: 1}, k)
		let held = setkind({n: 2}, k)
		setkind({n: 3}, k)
		print(collect())`, lots(), `
		line 0.0:1
		line 0.0:5
		line 0.0:6
		line 0.0:7
		line 0.0:8
		last 0.0:0
		call 0.1:1 last
		line 0.1:2
		print 0.1:2 bye 1
		line 0.1:3
		line 0.1:3
		throw 0.1:3 error 5
		back 0.1:0 error
		catch 0.0:0 error 5
		last 0.0:0
		call 0.1:1 last
		line 0.1:2
		print 0.1:2 bye 3
		line 0.1:3
		back 0.1:0
		print 0.0:8 5
		code 0, ticks 19, made 11`)
	// In a task, by it; an error's trace goes on with the calls that are open.
	wantReport(t, `resume(task(fn f() {
		  setkind({}, {last: fn last(t) { throw t }})
		  collect()
		}))`, lots(), `
		line 0.0:1
		turn 1.0:0 resume
		call 1.1:1 f
		line 1.1:2
		line 1.1:3
		last 1.0:0
		call 1.2:2 last
		line 1.2:2
		throw 1.2:2 table
		back 1.2:0 error
		catch 1.0:0 table
		back 1.1:0
		turn 0.0:0 done
		code 0, ticks 10, made 6`)
	// None without a collect, none at the end.
	wantPrints(t, `setkind({}, {last: fn() { print("never") }}) cells()`, lots())
	// The call can fail for itself, thrown where collect stands.
	in := lots()
	in.Depth = 1
	wantReport(t, `setkind({}, {last: fn() {}})
		collect()`, in, `
		line 0.0:1
		line 0.0:2
		last 0.0:0
		throw 0.0:2 error 8
		catch 0.0:0 error 8
		code 0, ticks 5, made 4`)
	in = lots()
	in.Ticks = 4
	wantReport(t, `setkind({}, {last: fn() {}})
		collect()`, in, `
		line 0.0:1
		line 0.0:2
		last 0.0:0
		code 2, ticks 4, made 4`)
}

// Who wants a last word.
func TestP5WantsALastWord(t *testing.T) {
	const prelude = `let say = fn(t) { print("bye", t.n) } let back `
	for _, c := range []struct {
		text string
		want []string
	}{
		{`setkind({n: 1}, {last: say}) collect() collect()`, []string{"bye 1"}},
		// At setkind it is asked for, and then again.
		{`let k = {} setkind({n: 1}, k) k.last = say collect()`, nil},
		{`let k = {last: say} setkind({n: 1}, k) k.last = nil collect() k.last = say collect()`, nil},
		{`let k = {last: say} setkind({n: 1}, k) k.last = print collect()`, nil},
		{`let k = {last: print} setkind({n: 1}, k) k.last = say collect()`, nil},
		{`let k = {last: say} setkind({n: 1}, k) k.last = fn(t) { print("other", t.n) } collect()`, []string{"other 1"}},
		{`setkind(setkind({n: 1}, {last: say}), {}) collect()`, nil},
		{`setkind(setkind({n: 1}, {last: say}), nil) collect()`, nil},
		{`setkind({n: 1}, {last: print}) setkind({n: 2}, {last: {}}) collect()`, nil},
		{`setkind({n: 1}, setkind({}, {index: {last: say}})) collect()`, nil},
		// What is brought back is told no more, unless it asks again.
		{`setkind({n: 1}, {last: fn(t) { print("bye") back = t }}) collect() print(back.n) back = nil collect()`, []string{"bye", "1"}},
		{`let k k = {last: fn(t) { print("bye") back = t }} setkind({n: 1}, k) collect() setkind(back, k) back = nil collect()`, []string{"bye", "bye"}},
		// The fn is called with the table and nothing else, and its values are dropped.
		{`setkind({n: 1}, {last: fn(...) { print(#{1: *...}) return 1 }}) print(collect())`, []string{"1", "1"}},
	} {
		wantPrints(t, prelude+c.text, lots(), c.want...)
	}
}

// What is told, and what it reaches, is reached until the last of the calls
// has ended; then all is looked for again.
func TestP5ReachedByLastWords(t *testing.T) {
	// Two that know each other: each can be seen in the other's last words.
	wantPrints(t, `
		let k = {last: fn(t) { print(t.n, t.other.n, collect(), t.other.n) }}
		{ let a, b = setkind({n: "a"}, k), setkind({n: "b"}, k) a.other = b b.other = a }
		print(collect())`, lots(), "a b 9 b", "b a 9 a", "3")
	// A last word makes something that is told in the same collect.
	wantPrints(t, `
		let k
		k = {last: fn(t) { print(t.n) if t.n < 3 { setkind({n: t.n + 1}, k) } }}
		setkind({n: 1}, k)
		print(collect())`, lots(), "1", "2", "3", "4")
	// What only a last word's table reached is told in the round behind it.
	wantPrints(t, `
		let k = {last: fn(t) { print(t.n) }}
		let w = setkind({}, {last: fn(t) { print("w") t.in = nil }})
		w.in = setkind({n: 1}, k)
		w = nil
		collect()`, lots(), "w", "1")
	wantPrints(t, `
		let k = {last: fn(t) { print(t.n) }}
		{ let inner = setkind({n: "inner"}, k) let outer = setkind({n: "outer", inner: inner}, k) }
		collect()`, lots(), "inner", "outer")
	// Weak pairs are taken out ahead of last words.
	wantPrints(t, `
		let w = setkind({}, {weak: "kv"})
		let t = setkind({}, {last: fn(t) { print(w.a, w[t], #w) w.a = t }})
		w.a, w[t] = t, 1
		t = nil
		collect()
		print(w.a)`, lots(), "nil nil 0", "nil")
	// The fn of a last word is held too, though its kind has let go of it.
	wantPrints(t, `
		let k = {}
		let up = {}
		k.last = fn(t) { k.last = nil print(collect(), up) up = 1 }
		setkind({}, k) setkind({}, k)
		collect()`, lots(), "7 table", "6 1")
}

// Collecting makes room, and what it counts is what lives.
func TestP5Collecting(t *testing.T) {
	in := lots()
	in.Cells = 6
	wantPrints(t, `
		let keep = {a: 1}
		for i = 1, 20, 1 {
		  try { let t = {a: {}} } catch e, s { print(i, e.code, collect()) e = nil }
		}`, in, "2 9 5", "3 9 5", "4 9 5", "5 9 5", "6 9 5", "7 9 5", "8 9 5", "9 9 5", "10 9 5", "11 9 5", "12 9 5", "13 9 5", "14 9 5", "15 9 5", "16 9 5", "17 9 5", "18 9 5", "19 9 5", "20 9 5")
	r := run(t, unitFrom(`let f = fn() { let t = {a: {}, b: {}} } for i = 1, 300, 1 { f() collect() }`), in)
	if r.Code != 0 || r.Made != 1+300*5 {
		t.Error(told(impl.Report{Code: r.Code, Error: r.Error, Made: r.Made}))
	}
}
