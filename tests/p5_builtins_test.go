package tests

import (
	"fmt"
	"testing"

	"loop.example/meaning/impl"
)

// What a builtin gives, and how many values that are not nil.
func TestP5Builtins(t *testing.T) {
	in := lots()
	in.Lines = []string{"first", "", "third"}
	for _, c := range []struct{ call, want string }{
		{`print(1)`, "0"},
		{`read()`, "1 first"},
		{`type()`, "1 nil"},
		{`type(nil)`, "1 nil"}, {`type(true)`, "1 bool"}, {`type(1)`, "1 int"}, {`type(1.5)`, "1 float"}, {`type("s")`, "1 str"},
		{`type({})`, "1 table"}, {`type(fn() {})`, "1 fn"}, {`type(type)`, "1 fn"}, {`type(task(fn() {}))`, "1 task"},
		{`type(1, 2)`, "1 int"},
		{`text()`, "1 nil"}, {`text(2.5)`, "1 5p-1"}, {`text("s")`, "1 s"}, {`text(print)`, "1 builtin"}, {`text({})`, "1 table"},
		{`setkind(t, {})`, "1 table"}, {`setkind(t, nil)`, "1 table"}, {`setkind(t)`, "1 table"}, {`setkind(t, nil, 1)`, "1 table"},
		{`kind()`, "0 nil"}, {`kind(t)`, "0 nil"}, {`kind(setkind(t, {}))`, "1 table"}, {`kind(5)`, "0 nil"},
		{`rawget(t, "a")`, "1 5"}, {`rawget(t, "b")`, "0 nil"}, {`rawget(t)`, "0 nil"}, {`rawget(t, 0.0 / 0)`, "0 nil"},
		{`rawset(t, "b", 1)`, "0"}, {`rawset(t, "b")`, "0"},
		{`task(fn() {})`, "1 task"},
		{`resume(task(fn() {}))`, "1 true"}, {`resume(task(fn() { return 1, 2 }))`, "3 true 1 2"},
		{`status(task(fn() {}))`, "1 new"},
		{`giveup(task(fn() {}))`, "1 true"},
	} {
		text := `let t = {a: 5} let count = fn(...) { print(#{1: *...}, ...) } `
		r := run(t, unitFrom(text+`count(`+c.call+`)`), in)
		got := printed(r)
		if r.Code != 0 || len(got) == 0 || got[len(got)-1] != c.want {
			t.Errorf("%s: prints %q, code %d, %s; want %q", c.call, got, r.Code, r.Error, c.want)
		}
	}
}

func TestP5Reads(t *testing.T) {
	in := lots()
	in.Lines = []string{"first", "", "third"}
	wantPrints(t, `print(read(), read(1)) print(type(read())) print(read(), read())`, in, "first ", "str", "nil nil")
	wantPrints(t, `print(read())`, lots(), "nil")
}

func TestP5Prints(t *testing.T) {
	wantPrints(t, `print() print("") print("", "") print("a\nb", "\x00\xff")`, lots(), "", "", " ", "a\nb \x00\xff")
	// A line of MaxStr bytes is printed, of one more not.
	in := lots()
	in.Args = []string{long(impl.MaxStr), long(impl.MaxStr - 2)}
	r := run(t, unitFrom(`
		let a, b = ...
		print(a)
		print(b, 1)
		try { print(a, "") } catch e, s { print(e.code) }
		try { print(b, 12) } catch e, s { print(e.code) }`), in)
	var lengths []int
	for _, text := range printed(r) {
		lengths = append(lengths, len(text))
	}
	if r.Code != 0 || fmt.Sprint(lengths) != "[4000 4000 1 1]" {
		t.Errorf("the lines have the lengths %v\n%s %s", lengths, r.Error, r.Trace)
	}
}

// Wrong arguments: what is thrown, at the call's place.
func TestP5Arguments(t *testing.T) {
	for call, code := range map[string]string{
		`setkind()`: "error 12", `setkind(1, {})`: "error 12", `setkind({}, 1)`: "error 12", `setkind({}, false)`: "error 12", `setkind(nil, nil)`: "error 12", `setkind({}, print)`: "error 12",
		`rawget()`: "error 12", `rawget("s", 1)`: "error 12", `rawset()`: "error 12", `rawset(1, 1, 1)`: "error 12", `rawset(nil, nil, nil)`: "error 12",
		`rawset({}, nil, 1)`: "error 5", `rawset({}, 0.0 / 0, nil)`: "error 5", `rawset({})`: "error 5",
		`task()`: "error 12", `task(1)`: "error 12", `task(print)`: "error 12", `task({})`: "error 12",
		`resume()`: "error 12", `resume(fn() {})`: "error 12", `resume(1)`: "error 12",
		`status()`: "error 12", `status({})`: "error 12", `giveup()`: "error 12", `giveup("s")`: "error 12",
		`yield()`: "error 10", `yield(1)`: "error 10",
	} {
		wantEnd(t, call, lots(), code, "main:1")
	}
}

// rawget and rawset ask no handler.
func TestP5Raw(t *testing.T) {
	wantPrints(t, `
		let t = setkind({}, {index: print, setindex: print, len: print, eq: print})
		rawset(t, "a", 1)
		rawset(t, 1.0, 2)
		print(rawget(t, "a"), rawget(t, 1), rawget(t, "b"))
		rawset(t, "a", nil)
		print(rawget(t, "a"))`, lots(), "1 2 nil", "nil")
}

// Pairs: MaxPairs fit into a table, wherever they come from; one more does not.
func TestP5FullTables(t *testing.T) {
	wantPrints(t, `
		let t = {}
		for i = 1, 500, 1 { t[i] = i }
		print(#t)
		try { t.x = 1 } catch e, s { print(e.code) }
		try { rawset(t, "x", 1) } catch e, s { print(e.code) }
		t[500], t.y, t[501.0] = 0, nil, nil
		print(t[500])
		t[1] = nil t.x = 1
		print(t.x, t[1])
		try { t[1] = 1 } catch e, s { print(e.code) }`, lots(), "500", "4", "4", "0", "1 nil", "4")
	// Where the last of a row of targets does not fit, the others do.
	wantPrints(t, `
		let t = {}
		for i = 1, 499, 1 { t[i] = i }
		try { t.a, t.b, t.c = 1, 2, 3 } catch e, s { print(e.code, t.a, t.b, t.c) }
		t.a = nil
		t.b = 2
		print(t.b)`, lots(), "4 1 nil nil", "2")
	// By lists: 200 arguments, and what 20 handlers put ahead of them.
	in := lots()
	in.Args = make([]string, 200)
	wantPrints(t, `
		let t = fn(...) { return {1: *...} }
		print(#t(...))
		for i = 1, 20, 1 { t = setkind({}, {call: t}) }
		let full = t(...)
		print(#full)
		for i = 221, 500, 1 { full[i] = i }
		try { full[501] = 1 } catch e, s { print(e.code) }`, in, "200", "220", "4")
}
