package tests

import (
	"fmt"
	"testing"

	"loop.example/meaning/impl"
)

// What is reached in the middle of something: c prints the cells counted, of
// which it is one itself.
func TestP5ReachedMeanwhile(t *testing.T) {
	const c = "let c = fn() { print(cells()) return 1 }\n"
	for _, x := range []struct {
		text string
		want []int
	}{
		{`c()`, []int{1}},
		// The left value while the right one is worked out, and not the other way round.
		{`let x = {} == c()`, []int{2}},
		{`let x = c() == {}`, []int{1}},
		{`let x = ({} == nil) == c()`, []int{1}},
		{`let x = {}[c()]`, []int{2}},
		{`let x = {}[{}] == c()`, []int{1}},
		// The first of an and or or is not needed any more.
		{`let x = {} and c()`, []int{1}},
		{`let x = nil or c()`, []int{1}},
		{`let x = ({} and nil) or c()`, []int{1}},
		// What is called, and the arguments that are already there.
		{`print({}, {a: 1}, c())`, []int{4, 0}},
		{`type({}, c())`, []int{2}},
		{`try { ({})(c()) } catch e, s {}`, []int{2}},
		{`setkind({}, {call: type})(c(), {})`, []int{4}},
		// The table of a NTable with what is in it, and the key ahead of its value.
		{`let x = {a: c()}`, []int{2}},
		{`let x = {a: {}, b: c()}`, []int{4}},
		{`let x = {[{}]: c()}`, []int{3}},
		{`let x = {a: {}, a: c()}`, []int{4}},
		{`let x = {a: {}, 1: *c()}`, []int{4}},
		{`let x = {a: {}, a: nil, b: c()}`, []int{2}},
		// The values ahead, in a NLet, NSet, NReturn and the bounds of a NFor.
		{`let x, y = {}, c()`, []int{2}},
		{`let x, y = c(), {}`, []int{1}},
		{`let x x = {}, c()`, []int{2}},
		{`return {}, {}, c()`, []int{3}},
		{`try { for i = {}, c(), {} {} } catch e, s {}`, []int{2}},
		// A variable holds what it held until the values are all there.
		{`let x = {} x = c()`, []int{2}},
		// The parts of the targets.
		{`({})[1] = c()`, []int{2}},
		{`({})[{}] = c()`, []int{3}},
		{`({})[{}], ({})[c()] = 1`, []int{4}},
		// What a NEach goes through: a table, or a fn.
		{`each k in {a: {}} { c() }`, []int{4}},
		{`let n = 0 each k in fn() { n = n + 1 if n < 2 { return n } } { c() }`, []int{3}},
		{`each k in setkind({}, {each: fn() { return read }}) { c() }`, nil},
		{`let n = 0 each k in setkind({}, {each: fn() { return fn() { n = n + 1 if n < 2 { c() return n } } }}) { c() }`, []int{4, 4}},
		// What a defer has kept, until it is run.
		{`{ defer type({}, {}) c() }`, []int{3}},
		{`{ defer type({}) defer type({}) defer c({}) }`, []int{3}},
		{`{ defer c({}) }`, []int{1}},
		{`{ defer fn() {}() c() }`, []int{2}},
		{`{ defer setkind({}, {call: type})() c() }`, []int{4}},
		{`{ defer type({}, c()) }`, []int{2}},
		{`while true { defer type({}) defer c() break } c()`, []int{2, 1}},
		// Values that are being returned.
		{`let f = fn() { defer c() return {}, {} } f()`, []int{5}},
		{`let f = fn() { defer c() { defer c() return {} } } f()`, []int{4, 4}},
		{`let f = fn() { return {} } type(f(), c())`, []int{3}},
		// The error that is on its way: a value, or the machine's own table.
		{`try { defer c() throw {} } catch e, s { c() } c()`, []int{2, 2, 1}},
		{`try { defer c() nil() } catch e, s { c() } c()`, []int{4, 4, 1}},
		{`try { { defer c() throw {} } } catch e, s { }`, []int{2}},
		// An error that leaves a defer: the one that it takes the place of is gone then.
		{`let bad = fn(x) { throw x } try { defer c() defer bad({}) throw {a: {}} } catch e, s { }`, []int{3}},
		{`let bad = fn(x) { defer c() throw x } try { defer bad({}) throw {a: {}} } catch e, s { }`, []int{7}},
		{`let bad = fn(x) { throw x } let f = fn() { defer c() defer bad(1) return {} } try { f() } catch e, s {}`, []int{5}},
		// An argument of the builtin that is at work is not reached.
		{`print(cells({}, {}))`, []int{1}},
		{`print(collect({}, {}))`, []int{1}},
		{`let t = {} print(cells(t))`, []int{2}},
		// Nor what a fn does not take.
		{`fn() { c() }({})`, []int{3}},
		{`fn(a) { c() }({}, {})`, []int{4}},
		{`fn(a, ...) { c() }({}, {}, {})`, []int{6}},
		{`let h = fn() { c() } let x = setkind({}, {add: h}) + 1`, []int{3}},
		{`let h = fn(a) { c() } let x = setkind({}, {add: h}) + {}`, []int{6}},
		{`let h = fn() { c() } let x = {} == #setkind({}, {len: h})`, []int{4}},
		{`let h = fn() { c() } let x = setkind({}, {index: h})[{}]`, []int{3}},
		{`let h = fn() { c() } let x = setkind({}, {call: h})({})`, []int{3}},
		// Of a NSet, the targets that have not got theirs.
		{`let h = fn() { c() } setkind({}, {setindex: h})[{}] = {}`, []int{3}},
		{`let h = fn() { c() } let x setkind({}, {setindex: h})[{}], ({})[{}], x = {}, {a: 1}, {}`, []int{8}},
		{`let h = fn() { c() } let x ({})[{}], setkind({}, {setindex: h})[{}], x = {}, {a: 1}, {}, {}`, []int{4}},
	} {
		var want []string
		for _, n := range x.want {
			want = append(want, fmt.Sprint(n))
		}
		r := run(t, unitFrom(c+x.text), lots())
		got := printed(r)
		if len(x.want) > 0 && x.want[len(x.want)-1] == 0 {
			got, want = got[:len(got)-1], want[:len(want)-1]
		}
		if r.Code != 0 || fmt.Sprint(got) != fmt.Sprint(want) {
			t.Errorf("%s: prints %v (code %d, %s), want %v", x.text, got, r.Code, r.Error, want)
		}
	}
}

// A variable is reached from its declaration to the end of its block, in every
// open call.
func TestP5ReachedVariables(t *testing.T) {
	const c = "let c = fn() { print(cells()) return 1 }\n"
	for text, want := range map[string]string{
		`{ let t = {} c() } c()`:                                                      "[2 1]",
		`{ let t = {} { c() let u = {} c() } c() }`:                                   "[2 3 2]",
		`let t = c() t = {} c() t = nil c()`:                                          "[1 2 1]",
		`{ let t = {} defer c() }`:                                                    "[2]",
		`{ defer c() let t = {} }`:                                                    "[2]",
		`{ defer c() { let t = {} } }`:                                                "[1]",
		`try { defer c() let t = {} { let u = {} throw 1 } } catch e, s { c() }`:      "[2 1]",
		`{ defer type() let t = {} } c()`:                                             "[1]",
		`try { let t = {} throw 1 } catch e, s { c() }`:                               "[1]",
		`try { let t = {} nil() } catch e, s { e = nil c() } c()`:                     "[1 1]",
		`if true { let t = {} } c()`:                                                  "[1]",
		`for i = 1, 2, 1 { c() let t = {} }`:                                          "[1 1]",
		`each k, v in {a: {}} { c() k = nil v = nil c() }`:                            "[4 4]",
		`let n = 0 each k in fn() { n = n + 1 c() if n < 3 { return {} } } { n = n }`: "[4 4 4]",
		`try { throw {} } catch e, s { c() e = nil c() } c()`:                         "[2 1 1]",
		`let f f = fn(n, t) { if n == 0 { c() return } f(n - 1, {}) } f(2)`:           "[6]",
		`let f f = fn(n, t) { if n == 0 { return c() } f(n - 1, {}) c() } f(2)`:       "[6 5 4]",
		// Closed over: as long as the fn is reached.
		`let f = fn() { let t = {} return fn() { return t } }() c() f = nil c()`: "[4 1]",
		`let t = {} let f = fn() { t = nil } c() f() c()`:                        "[4 3]",
		// Circles are reached by nobody.
		`{ let a = {} let b = {a: a} a.b = b c() } c()`: "[5 1]",
		// Keys and values, and a kind.
		`let t = {[{}]: {}} c()`:                               "[5]",
		`let t = setkind({}, {a: {}}) c() setkind(t, nil) c()`: "[5 2]",
	} {
		r := run(t, unitFrom(c+text), lots())
		if got := fmt.Sprint(printed(r)); r.Code != 0 || got != want {
			t.Errorf("%s: prints %s (code %d, %s), want %s", text, got, r.Code, r.Error, want)
		}
	}
}

// Tasks: the running one and those that wait for it; new and waiting ones where
// they are reached; of one that is done, itself.
func TestP5ReachedTasks(t *testing.T) {
	for text, want := range map[string]string{
		// A task and its fn.
		`let t = task(fn() {}) print(cells()) t = nil print(cells())`: "[2 0]",
		`let t = task(fn() {}) resume(t) print(cells())`:              "[1]",
		`let t = task(fn() {}) giveup(t) print(cells())`:              "[1]",
		`let t = task(fn() { throw 1 }) resume(t) print(cells())`:     "[1]",
		// A waiting one: its calls, variables, and what it was working out.
		`let t = task(fn() { let a = {} yield() }) resume(t) print(cells()) t = nil print(cells())`:                   "[3 0]",
		`let t = task(fn() { let a = {} == yield() }) resume(t) print(cells())`:                                       "[3]",
		`let t = task(fn() { type({}, yield({})) }) resume(t) print(cells())`:                                         "[3]",
		`let t = task(fn(a, ...) { yield() }) resume(t, {}, {}) print(cells())`:                                       "[4]",
		`let t = task(fn() { yield() }) resume(t, {}, {}) print(cells())`:                                             "[2]",
		`let t = task(fn() { { defer type({}) yield() } yield() }) resume(t) print(cells()) resume(t) print(cells())`: "[3 2]",
		`let t = task(fn() { fn(a) { yield() }({}) }) resume(t) print(cells())`:                                       "[4]",
		`let t = task(fn() { each k in {a: 1} { yield() } }) resume(t) print(cells())`:                                "[4]",
		`let t = task(fn() { try { throw {} } catch e, s { yield() } }) resume(t) print(cells())`:                     "[3]",
		`let t = task(fn() { defer yield() throw {} }) resume(t) print(cells())`:                                      "[3]",
		`let t = task(fn() { defer yield() return {}, {} }) resume(t) print(cells())`:                                 "[4]",
		// The running one and those that wait, though nobody has them.
		`resume(task(fn() { print(cells()) }))`:                                   "[2]",
		`resume(task(fn() { let a = {} resume(task(fn() { print(cells()) })) }))`: "[5]",
		`let x = {} == resume(task(fn() { print(cells()) }))`:                     "[3]",
		`resume(task(fn() { print(cells()) }), {})`:                               "[2]",
		// Of one that is given up, the error that was dropped last.
		`let c = fn() { print(cells()) } let t = task(fn() { defer c() defer fn() { throw {a: 1} }() yield() }) resume(t) giveup(t) c()`: "[6 2]",
	} {
		r := run(t, unitFrom(text), lots())
		if got := fmt.Sprint(printed(r)); r.Code != 0 || got != want {
			t.Errorf("%s: prints %s (code %d, %s), want %s", text, got, r.Code, r.Error, want)
		}
	}
}

// The allowance: what lives and what was made since, with the new cells.
func TestP5Cells(t *testing.T) {
	cells := func(n int) impl.Input {
		in := lots()
		in.Cells = n
		return in
	}
	for _, c := range []struct {
		text  string
		needs int
	}{
		{`let t = {}`, 1},
		{`let t = {a: 1, b: 2}`, 3},
		{`let a, b let f = fn() { a = b }`, 3},
		{`let f = task(fn() {})`, 2},
		{`let t = {} t.a = 1 t.a = 2 t.a = nil t.b = nil`, 2},
		{`let t = {} rawset(t, 1, 1)`, 2},
		{`{ let t = {} } collect() let t = {}`, 1},
		{`let t = {} collect() let u = {}`, 2},
		{`{ let t = {} } let t = {}`, 2},
		{`let e try { nil() } catch x, s { e = x } collect() let t = {}`, 4},
		{`let f = fn(...) { return {1: *...} } f(1, 2)`, 4},
		{`for i = 1, 5, 1 { collect() let t = {a: i} }`, 2},
		{`for i = 1, 5, 1 { let t = {a: i} collect() }`, 4},
		{`for i = 1, 5, 1 { let t = {a: i} } `, 10},
	} {
		if r := run(t, unitFrom(c.text), cells(c.needs)); r.Code != 0 {
			t.Errorf("%s: with %d cells\n%s", c.text, c.needs, told(r))
		}
		r := run(t, unitFrom(c.text), cells(c.needs-1))
		if r.Code != 1 || r.Error != "error 9" {
			t.Errorf("%s: with %d cells\n%s", c.text, c.needs-1, told(r))
		}
	}
	// Nothing is made by what fails, and other errors come first.
	wantPrints(t, `
		let t, u = {}, {a: 1}
		let tries = fn(f, x, y, z) { try { f(x, y, z) } catch e, s { print(e.code) } }
		tries(rawset, t, "a", 1) tries(rawset, t, nil, 1) tries(rawset, 1, 1, 1) tries(rawset, u, "a", 2)
		tries(task, tries) tries(task, 1)
		print(t.a, u.a)
		try { let x = {} } catch e, s { print(e.code, e.line, s) }
		try { let x = fn() {} } catch e, s { print(e.code) }
		try { t[nil] = 1 } catch e, s { print(e.code) }
		print(cells())`, cells(4), "9", "5", "12", "9", "12", "nil 2", "9 7 main:7", "9", "5", "4")
	full := `let t = {} for i = 1, 500, 1 { t[i] = i } `
	wantEnd(t, full+`t.x = 1`, cells(501), "error 4", "main:1")
	wantEnd(t, full+`t[1] = nil t.x = 1`, cells(501), "error 9", "main:1")
	tasks := `let f = fn() {} for i = 1, 100, 1 { task(f) } task(f)`
	wantEnd(t, tasks, cells(101), "error 10", "main:1")
	wantEnd(t, tasks, cells(100), "error 9", "main:1")
	// The table stays of which a pair could not come.
	r := run(t, unitFrom(`let t = {a: 1, b: 2}`), cells(2))
	if r.Made != 2 || r.Error != "error 9" {
		t.Error(told(r))
	}
	// No cells: nothing can be made, but errors can.
	wantPrints(t, `try { let x = {} } catch e, s { print(e.code, cells()) }`, cells(0), "9 3")
}
