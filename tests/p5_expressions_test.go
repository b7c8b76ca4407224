package tests

import (
	"fmt"
	"math"
	"slices"
	"strings"
	"testing"

	"loop.example/meaning/impl"
)

func TestP5Literals(t *testing.T) {
	wantPrints(t, `print(nil, true, false, 7, 2.5, "s", {}, fn() {}, print, task(fn() {}))`, lots(),
		"nil true false 7 5p-1 s table fn builtin task")
	// A builtin is a value like any other; so is -0.0.
	wantPrints(t, `let p = print p(1, - 0.0) print(p == print, type(p))`, lots(), "1 -0p0", "true fn")
}

// One value, or all, by where an expression stands.
func TestP5Lists(t *testing.T) {
	const f = `let f = fn(...) { return ... } let none = fn() {} `
	for _, c := range []struct{ text, want string }{
		{`print(f(1, 2), f(3, 4))`, "1 3 4"},
		{`print((f(1, 2)))`, "1"},
		{`print(f(1, 2), 5)`, "1 5"},
		{`print(f(1, 2) + 10)`, "11"},
		{`print(none(), 1)`, "nil 1"},
		{`print(1, none())`, "1"},
		{`print((none()))`, "nil"},
		{`print(none())`, ""},
		{`let a, b, c = f(1, 2) print(a, b, c)`, "1 2 nil"},
		{`let a, b = f(1, 2), 9 print(a, b)`, "1 9"},
		{`let a = f(1, 2) print(a)`, "1"},
		{`let a = none() print(a)`, "nil"},
		{`print(#{1: *f(7, 8, 9)})`, "3"},
		{`print(#{1: f(7, 8, 9)}, {1: f(7, 8)}[1])`, "1 7"},
		{`print({5: *f(7, 8)}[6], {1: 1, 2: *none()}[2])`, "8 nil"},
		{`let t = {1: "a", 1: *f(7, nil, 9)} print(t[1], t[2], t[3])`, "7 nil 9"},
		{`let g = fn(...) { return 0, ... } print(g(g(1)))`, "0 0 1"},
		{`let g = fn(...) { return (...) } print(g(4, 5)) print(g())`, "4;nil"},
		{`let g = fn(...) { return ..., 1 } print(g(4, 5)) print(g())`, "4 1;nil 1"},
		{`let g = fn(a, b, ...) { return b, a, ... } print(g(1)) print(g(1, 2, 3))`, "nil 1;2 1 3"},
	} {
		wantPrints(t, f+c.text, lots(), strings.Split(c.want, ";")...)
	}
}

// Left to right, one after the other.
func TestP5Order(t *testing.T) {
	const say = `let say = fn(n, v) { print(n) return v } `
	for _, c := range []struct {
		text string
		many int
	}{
		{`let x = say(1, 5) + say(2, 6) * say(3, 7)`, 3},
		{`let x = say(1, 5) > say(2, 6)`, 2},
		{`let x = say(1, {x: 1})[say(2, "x")]`, 2},
		{`let x = {[say(1, 1)]: say(2, 2), [say(3, 3)]: say(4, 4), 9: *say(5, 5)}`, 5},
		{`let a, b = say(1, 1), say(2, 2), say(3, 3)`, 3},
		{`return say(1, 1), say(2, 2)`, 2},
		{`let x = say(1, nil) and say(2, 2) or say(2, 3)`, 2},
		{`let x = say(1, 1) or say(2, 2)`, 1},
		{`let x = - say(1, 1) .. #say(2, "s")`, 2},
	} {
		r := run(t, unitFrom(say+c.text), lots())
		got := printed(r)
		var want []string
		for i := range c.many {
			want = append(want, fmt.Sprint(i+1))
		}
		if r.Code != 0 || !slices.Equal(got, want) {
			t.Errorf("%s prints %q, want %q", c.text, got, want)
		}
	}
	wantPrints(t, say+`say(1, say)(say(2, 3), say(4, 5))`, lots(), "1", "2", "4", "3")
	wantPrints(t, say+`{ defer say(1, print)(say(2, 8)) print(3) } print(4)`, lots(), "1", "2", "3", "8", "4")
}

func TestP5AndOr(t *testing.T) {
	wantPrints(t, `
		print(nil and 1, false and 1, 0 and 1, 1 and nil)
		print(nil or 1, false or nil, 0 or 1, nil or false)
		let f = fn() { return 1, 2 }
		print(1 and f()) print(nil or f())`, lots(), "nil false 1 nil", "1 nil 0 false", "1", "1")
}

// An operation on values without kinds is that of chapter 1, with its code as
// an error.
func TestP5Operations(t *testing.T) {
	names := map[int]string{1: "+", 2: "-", 3: "*", 4: "/", 5: "//", 6: "%", 7: "&", 8: "|", 9: "^", 10: "<<", 11: ">>", 12: "..", 13: "==", 14: "!=", 15: "<", 16: "<=", 17: ">", 18: ">="}
	values := map[string]impl.Value{"nil": nilValue(), "true": boolean(1), "7": number(7), "0": number(0), "- 3": number(-3), "2.5": float(2.5), `"s"`: str("s"), `"t"`: str("t"), "{}": thing(impl.KTable, 0), "print": builtin(0), "0.0 / 0": float(math.NaN())}
	for op, name := range names {
		for a, x := range values {
			for b, y := range values {
				if a == "{}" && b == "{}" {
					y.Ref = 1
				}
				want := impl.Binary(op, x, y)
				wantValued(t, fmt.Sprintf("return (%s) %s (%s)", a, name, b), want)
			}
		}
	}
	for op, name := range map[int]string{19: "-", 20: "~", 21: "not", 22: "#"} {
		for a, x := range values {
			if name == "#" && a == "{}" {
				continue
			}
			wantValued(t, fmt.Sprintf("return %s (%s)", name, a), impl.Unary(op, x))
		}
	}
}

func wantValued(t *testing.T, text string, want impl.Valued) {
	t.Helper()
	r := impl.Run(unitFrom(text), lots())
	if want.Code == 0 && (r.Code != 0 || !slices.Equal(r.Vals, []string{impl.Text(want.Value)})) {
		t.Errorf("%s: got\n%s\nwant %s", text, told(r), impl.Text(want.Value))
	}
	if want.Code != 0 && (r.Code != 1 || r.Error != fmt.Sprint("error ", want.Code)) {
		t.Errorf("%s: got\n%s\nwant the error %d", text, told(r), want.Code)
	}
}

// A join is a tick, just ahead of it.
func TestP5Joins(t *testing.T) {
	wantReport(t, `print("a" .. 1 .. 2.5)`, lots(), `
		line 0.0:1
		print 0.0:1 a15p-1
		code 0, ticks 4, made 0`)
	in := lots()
	in.Ticks = 3
	wantReport(t, `let a = fn() { print(1) return "a" }() .. "b"`, in, `
		line 0.0:1
		call 0.1:1
		line 0.1:1
		code 2, ticks 3, made 1`)
	in.Ticks = 5
	wantReport(t, `let a = fn() { print(1) return "a" }() .. "b"
		print(2)`, in, `
		line 0.0:1
		call 0.1:1
		line 0.1:1
		print 0.1:1 1
		line 0.1:1
		back 0.1:0
		code 2, ticks 5, made 1`)
	in.Ticks = 1
	wantReport(t, `let a = nil .. 1`, in, `
		line 0.0:1
		code 2, ticks 1, made 0`)
	wantEnd(t, `let a = nil .. 1`, lots(), "error 1", "main:1")
}

func TestP5Tables(t *testing.T) {
	wantPrints(t, `
		let t = {a: 1, b: 2, a: 3, b: nil, c: nil, [1.0]: 4, [1]: 5}
		each k, v in t { print(k, v) }
		print(#t)`, lots(), "a 3", "1 5", "1")
	// A key that is nil or a NaN: behind its value, also for a nil.
	wantPrints(t, `
		try { let t = {[nil]: print("v")} } catch e, s { print(e.code) }
		try { let t = {[0.0 / 0]: nil} } catch e, s { print(e.code) }
		let t = {} print(t[nil], t[0.0 / 0])
		try { t[nil] = nil } catch e, s { print(e.code) }`, lots(), "v", "5", "5", "nil nil", "5")
	// The numbers of a list wrap.
	u := unitOf(impl.Fn{Rest: true, Vars: []string{"k", "v"}, Nodes: []impl.Node{
		counts(impl.NInt, greatestInt), has(impl.NRest), operates(impl.NTable, 1, 0, 1),
		counts(impl.NBuiltin, impl.BPrint), names(impl.NVar, 0), names(impl.NVar, 1), has(impl.NCall, 3, 4, 5), begins(impl.NDo, 2, 6), begins(impl.NBlock, 1, 7),
		declares(impl.NEach, 1, []int{0, 1}, 2, 8), body(9),
	}})
	in := lots()
	in.Args = []string{"a", "b"}
	if got := printed(run(t, u, in)); !slices.Equal(got, []string{"9223372036854775807 a", "-9223372036854775808 b"}) {
		t.Error(got)
	}
	// Values are the same by their kind, and things by which they are.
	wantPrints(t, `
		let t, k, f = {}, {}, fn() {}
		t[k], t[f], t[print], t[true], t["1"], t[1] = 1, 2, 3, 4, 5, 6
		print(t[k], t[{}], t[f], t[print], t[read], t[true], t["1"], t[1.0])`, lots(), "1 nil 2 3 nil 4 5 6")
}

// Cells: a table 1, a pair that comes 1, a fn 1 and 1 for each of its Ups, a
// task 1; errors of the machine none.
func TestP5Made(t *testing.T) {
	for text, made := range map[string]int{
		`let t = {}`:                                                     1,
		`let t = {a: 1, b: 2}`:                                           3,
		`let t = {a: 1, a: 2, b: nil}`:                                   2,
		`let t = {a: 1} t.a = 2 t.a = nil t.b = nil`:                     2,
		`let t = {a: 1} t.a = nil t.a = 1`:                               3,
		`let f = fn() {}`:                                                1,
		`let a, b let f = fn() { a = b a = b }`:                          3,
		`let a let f = fn() { return fn() { a = 1 } }`:                   2,
		`let a let f = fn() { return fn() { a = 1 } } f() f()`:           6,
		`let t = task(fn() {})`:                                          2,
		`try { let x = nil + 1 } catch e, s {}`:                          0,
		`try { let x = nil + 1 } catch e, s { e.a = 1 }`:                 1,
		`let f = fn(...) { return {1: *...} } let t = f(1, nil, 3)`:      4,
		`rawset({}, 1, 1)`:                                               2,
		`collect() let t = {} collect()`:                                 1,
		`while false { let t = {} } if false { let t = {} } let t = nil`: 0,
	} {
		if r := run(t, unitFrom(text), lots()); r.Code != 0 || r.Made != made {
			t.Errorf("%s: code %d, %d cells made, want %d", text, r.Code, r.Made, made)
		}
	}
}
