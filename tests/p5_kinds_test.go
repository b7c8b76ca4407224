package tests

import (
	"fmt"
	"testing"
)

// The handlers of the operations, by their names: of the first, else of the
// second, called with both.
func TestP5OperationHandlers(t *testing.T) {
	for name, op := range map[string]string{
		"add": "+", "sub": "-", "mul": "*", "div": "/", "idiv": "//", "mod": "%", "and": "&", "or": "|", "xor": "^", "shl": "<<", "shr": ">>", "join": "..",
	} {
		kinds := fmt.Sprintf(`
			let a = setkind({n: "a"}, {["%s"]: fn h(x, y) { print("a's", type(x), type(y)) return 5, 6 }})
			let b = setkind({n: "b"}, {["%s"]: fn h(x, y) { print("b's", type(x), type(y)) }}) `, name, name)
		wantPrints(t, kinds+fmt.Sprintf(`
			print(a %[1]s b) print(b %[1]s a)
			print(a %[1]s 1) print(1 %[1]s a) print({} %[1]s a) print(nil %[1]s b)`, op), lots(),
			"a's table table", "5", "b's table table", "nil",
			"a's table int", "5", "a's int table", "5", "a's table table", "5", "b's nil table", "nil")
		// None where there is no handler, or one of another name.
		for _, text := range []string{"{} " + op + " 1", "1 " + op + " {}", "setkind({}, {}) " + op + " nil", `setkind({}, {eq: print, lt: print, call: print}) ` + op + " {}"} {
			wantEnd(t, `let x = `+text, lots(), "error 1", "main:1")
		}
	}
	// A handler is not asked for where the operation goes, or fails otherwise.
	wantPrints(t, `print(1 + 2, "a" .. 1)`, lots(), "3 a1")
	wantEnd(t, `let x = 1 // 0`, lots(), "error 2", "main:1")
	wantEnd(t, `let x = 1 % 0`, lots(), "error 2", "main:1")
	wantEnd(t, `let x = 1 << - 1`, lots(), "error 3", "main:1")
	wantEnd(t, `let x = 1 >> - 1`, lots(), "error 3", "main:1")
	// A handler that is false is one: it is called.
	wantEnd(t, `let x = setkind({}, {add: false}) + 1`, lots(), "error 6", "main:1")
	wantReport(t, `let x = setkind({}, {add: 7}) + 1`, lots(), `
		line 0.0:1
		throw 0.0:1 error 6
		code 1, ticks 3, made 3, error 6 at main:1`)
}

// Whole reports: the call of a handler is a call, and the statement at hand
// stays.
func TestP5HandlerCalls(t *testing.T) {
	wantReport(t, `let k = {join: fn j() { throw 1 }}
		let t = setkind({}, k)
		print(1 .. t)`, lots(), `
		line 0.0:1
		line 0.0:2
		line 0.0:3
		call 0.1:1 j
		line 0.1:1
		throw 0.1:1 1
		back 0.1:0 error
		code 1, ticks 7, made 4, 1 at j:1 main:3`)
	wantReport(t, `let k = {lt: print, le: print}
		let t = setkind({}, k)
		print(t < 1,
		  1 <= t)
		print(t > 1, t >= 1)`, lots(), `
		line 0.0:1
		line 0.0:2
		line 0.0:3
		print 0.0:3 table 1
		print 0.0:3 1 table
		print 0.0:3 false false
		line 0.0:5
		print 0.0:5 1 table
		print 0.0:5 1 table
		print 0.0:5 false false
		code 0, ticks 11, made 4`)
}

func TestP5Equality(t *testing.T) {
	const kinds = `
		let a = setkind({}, {eq: fn(x, y) { print("a's", x.n, y.n) return 1 }})
		let b = setkind({n: 2}, {eq: fn(x, y) { print("b's", x.n, y.n) return nil }})
		let c = {n: 3} `
	wantPrints(t, kinds+`
		print(a == b) print(b == a) print(c == b) print(c == a)
		print(a != b) print(b != a)
		print(a == a, a != a, c == {}, c == c)
		print(a == 1, a == nil, nil != a, a == print)`, lots(),
		"a's nil 2", "true", "b's 2 nil", "false", "b's 3 2", "false", "a's 3 nil", "true",
		"a's nil 2", "false", "b's 2 nil", "true",
		"true false false true",
		"false false true false")
	wantPrints(t, `print(1 == 1.0, 0.0 == - 0.0, "a" == "a", nil == false, 0.0 / 0 == 0.0 / 0)`, lots(), "true true true false false")
}

func TestP5Ordering(t *testing.T) {
	const kinds = `
		let a = setkind({n: "a"}, {lt: fn(x, y) { print("lt", type(x), type(y)) return 0 }, le: fn(x, y) { print("le", type(x), type(y)) }})
		let say = fn(v) { print("says", type(v)) return v } `
	wantPrints(t, kinds+`
		print(a < 1) print(1 < a) print(a <= "s") print(nil <= a)
		print(say(a) > say(1)) print(say(1) >= say(a))
		print(a < {}) print({} > a)`, lots(),
		"lt table int", "true", "lt int table", "true", "le table str", "false", "le nil table", "false",
		"says table", "says int", "lt int table", "true", "says int", "says table", "le table int", "false",
		"lt table table", "true", "lt table table", "true")
	// The first's handler, in the order in which both are turned.
	wantPrints(t, `
		let a = setkind({}, {lt: fn() { print("a") }})
		let b = setkind({}, {lt: fn() { print("b") }})
		print(a < b) print(a > b)`, lots(), "a", "false", "b", "false")
	wantPrints(t, `print(1 < 2, 2 <= 2.0, "a" > "b", "b" >= "b", 0.0 / 0 < 1, 1 >= 0.0 / 0)`, lots(), "true true false true false false")
	for _, text := range []string{`1 < "1"`, `{} < {}`, `nil > 1`, `true >= false`, `setkind({}, {lt: print}) <= 1`, `setkind({}, {le: print}) > 1`} {
		wantEnd(t, `let x = `+text, lots(), "error 1", "main:1")
	}
}

func TestP5UnaryHandlers(t *testing.T) {
	wantPrints(t, `
		let a = setkind({1: 1}, {neg: fn(v, x) { return "neg", x }, flip: fn(v) { return type(v) }, len: fn(v, x) { return rawget(v, 1), x }, ["not"]: fn() { return 9 }})
		print(- a, ~a, #a, not a)
		print(#{1: 1, 2: 2, 4: 4}, #{}, #{[2]: 1}, #"abc", #"", not nil, not 0)`, lots(), "neg table 1 false", "2 0 0 3 0 true false")
	wantPrints(t, `print(#setkind({1: 1}, {neg: print}), - 2.5, ~5, - (- 9223372036854775807 - 1))`, lots(), "1 -5p-1 -6 -9223372036854775808")
	for _, text := range []string{`- {}`, `~{}`, `- "s"`, `~1.5`, `#1`, `#nil`, `- nil`, `#print`, `- setkind({}, {len: print})`} {
		wantEnd(t, `let x = `+text, lots(), "error 1", "main:1")
	}
}

func TestP5Reading(t *testing.T) {
	wantPrints(t, `
		let base = {x: "base x", y: "base y"}
		let t = setkind({x: "own x"}, {index: base})
		print(t.x, t.y, t.z, rawget(t, "y"))
		let f
		f = setkind({x: 1}, {index: fn(v, k) { print("asked", v == f, k) return k, 2 }})
		print(f.x, f.y)
		let far = setkind({}, {index: setkind({n: "far"}, {index: fn(v, k) { return rawget(v, "n") .. k }})})
		print(far.q)
		print(setkind({}, {index: type})[1])`, lots(), "own x base y nil nil", "asked true y", "1 y", "farq", "table")
	// False is found; nil and a NaN are keys that are never found, but asked for.
	wantPrints(t, `
		let t = setkind({x: false}, {index: fn(v, k) { return text(k) }})
		print(t.x, t[nil], t[0.0 / 0])`, lots(), "false nil nan")
	for _, text := range []string{`nil[1]`, `"s"[1]`, `(1).x`, `print.x`, `fn() {}.x`, `task(fn() {}).x`, `nil[nil]`} {
		wantEnd(t, `let x = `+text, lots(), "error 7", "main:1")
	}
	// A table that handles index is not called, even if it could be.
	wantPrints(t, `print(setkind({}, {index: setkind({y: 1}, {call: print})}).y)`, lots(), "1")
	wantEnd(t, `let x = setkind({}, {index: 5}).y`, lots(), "error 6", "main:1")
}

func TestP5Writing(t *testing.T) {
	wantPrints(t, `
		let log = {}
		let t = setkind({x: 1}, {setindex: fn(v, k, x) { print("asked", k, x) rawset(v, k, x) }})
		t.x = 2 t.y = 3 t.y = 4 t.x = nil t.x = 5 t.z = nil t[1.0] = 1
		print(t.x, t.y, t.z, t[1])
		let base = {}
		let u = setkind({own: 1}, {setindex: base})
		u.own, u.new = 2, 3
		print(u.own, u.new, base.own, base.new)
		let far = setkind({}, {setindex: setkind({n: "far"}, {setindex: fn(v, k, x) { print(v.n, k, x) }})})
		far.q = 1
		setkind({}, {setindex: print})[1] = 2`, lots(),
		"asked y 3", "asked x 5", "asked z nil", "asked 1p0 1", "5 4 nil 1", "2 nil nil 3", "far q 1", "table 1 2")
	for text, code := range map[string]string{
		`nil[1] = 1`: "error 7", `("s").x = 1`: "error 7", `print.x = 1`: "error 7", `nil[nil] = 1`: "error 7",
		`({})[nil] = 1`: "error 5", `({})[0.0 / 0] = 1`: "error 5", `({})[nil] = nil`: "error 5",
		`setkind({}, {setindex: print})[nil] = 1`: "error 5",
		`setkind({}, {setindex: 5}).x = 1`:        "error 6",
	} {
		wantEnd(t, text, lots(), code, "main:1")
	}
	// Index handlers are not asked by a write, nor setindex ones by a read.
	wantPrints(t, `
		let t = setkind({}, {index: fn() { print("no") }})
		t.x = 1
		print(setkind({}, {setindex: fn() { print("no") }}).x)`, lots(), "nil")
}

// A handler is what Get gives of the kind: kinds of kinds are not asked, and
// what the kind has at this moment counts.
func TestP5KindsOfKinds(t *testing.T) {
	wantPrints(t, `
		let kind1 = setkind({}, {index: {add: print}, add: print})
		let t = setkind({}, kind1)
		try { let x = t + 1 } catch e, s { print(e.code) }
		kind1.add = fn(a, b) { return "now" }
		print(t + 1)
		kind1.add = nil
		try { let x = t + 1 } catch e, s { print(e.code) }
		setkind(t, nil)
		print(kind(t), kind(kind1) == nil, kind(5), kind("s"))`, lots(), "1", "now", "1", "nil false nil nil")
}
