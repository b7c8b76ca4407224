package tests

import (
	"runtime"
	"slices"
	"testing"
	"time"

	"loop.example/meaning/impl"
)

// A unit with a fault, of each code, is not run.
func TestP5UnitsWithAFault(t *testing.T) {
	for _, u := range []impl.Unit{
		{},
		unitOf(impl.Fn{}),
		unitOf(textOf(0, begins(impl.NBlock, 0))),
		unitOf(textOf(0, begins(impl.NBlock, 1), begins(impl.NBlock, 1))),
		unitOf(textOf(0, names(impl.NVar, 0), begins(impl.NThrow, 1, 0), body(1))),
		unitOf(textOf(0, begins(impl.NBreak, 1), body(0))),
		unitOf(textOf(0, has(impl.NRest), begins(impl.NThrow, 1, 0), body(1))),
		unitOf(textOf(0, body()), textOf(0, body())),
	} {
		if impl.CheckUnit(u) == (impl.Fault{}) {
			t.Errorf("%v is valid", u)
		}
		if r := run(t, u, lots()); !sameReport(r, impl.Report{Code: 3}) {
			t.Errorf("a unit with the fault %v tells\n%s", impl.CheckUnit(u), told(r))
		}
	}
}

// Each bound of an input is met, and passed by one.
func TestP5InputOk(t *testing.T) {
	texts := func(n int) []string { return slices.Repeat([]string{"x"}, n) }
	type changed = func(*impl.Input)
	for what, c := range map[string]struct {
		change changed
		ok     bool
	}{
		"nothing given":       {func(in *impl.Input) { *in = impl.Input{Depth: 1} }, true},
		"all zero":            {func(in *impl.Input) { *in = impl.Input{} }, false},
		"200 args":            {func(in *impl.Input) { in.Args = texts(200) }, true},
		"201 args":            {func(in *impl.Input) { in.Args = texts(201) }, false},
		"200 lines":           {func(in *impl.Input) { in.Lines = texts(200) }, true},
		"201 lines":           {func(in *impl.Input) { in.Lines = texts(201) }, false},
		"an arg of 4000":      {func(in *impl.Input) { in.Args = []string{"", long(4000)} }, true},
		"an arg of 4001":      {func(in *impl.Input) { in.Args = []string{"", long(4001)} }, false},
		"a line of 4000":      {func(in *impl.Input) { in.Lines = []string{"", long(4000)} }, true},
		"a line of 4001":      {func(in *impl.Input) { in.Lines = []string{long(4001), ""} }, false},
		"no ticks":            {func(in *impl.Input) { in.Ticks = 0 }, true},
		"ticks below 0":       {func(in *impl.Input) { in.Ticks = -1 }, false},
		"5000 ticks":          {func(in *impl.Input) { in.Ticks = 5000 }, true},
		"5001 ticks":          {func(in *impl.Input) { in.Ticks = 5001 }, false},
		"depth 0":             {func(in *impl.Input) { in.Depth = 0 }, false},
		"depth 1":             {func(in *impl.Input) { in.Depth = 1 }, true},
		"depth 60":            {func(in *impl.Input) { in.Depth = 60 }, true},
		"depth 61":            {func(in *impl.Input) { in.Depth = 61 }, false},
		"no cells":            {func(in *impl.Input) { in.Cells = 0 }, true},
		"cells below 0":       {func(in *impl.Input) { in.Cells = -1 }, false},
		"20000 cells":         {func(in *impl.Input) { in.Cells = 20000 }, true},
		"20001 cells":         {func(in *impl.Input) { in.Cells = 20001 }, false},
		"the least of an int": {func(in *impl.Input) { in.Ticks = leastInt }, false},
	} {
		in := lots()
		c.change(&in)
		before := copyInput(in)
		if got := impl.InputOk(in); got != c.ok {
			t.Errorf("%s: InputOk gives %v", what, got)
		}
		if !slices.Equal(in.Args, before.Args) || !slices.Equal(in.Lines, before.Lines) {
			t.Errorf("%s: the input was written into", what)
		}
		r := run(t, unitFrom("let a = {}"), in)
		if (r.Code == 3) == c.ok || r.Code == 3 && !sameReport(r, impl.Report{Code: 3}) {
			t.Errorf("%s: a run tells\n%s", what, told(r))
		}
	}
}

// Every way in which a text ends.
func TestP5Ends(t *testing.T) {
	in := lots()
	in.Args = []string{"x", "y"}
	wantReport(t, ``, in, `code 0, ticks 0, made 0`)
	wantReport(t, `return`, in, `
		line 0.0:1
		code 0, ticks 1, made 0`)
	wantReport(t, `return 1, 2.5, "s", nil, true, {}, fn() {}, task(fn() {}), print, ...`, in, `
		line 0.0:1
		code 0, ticks 2, made 4, gives 1 5p-1 s nil true table fn task builtin x y`)
	wantReport(t, `throw "s"
		print(1)`, in, `
		line 0.0:1
		throw 0.0:1 s
		code 1, ticks 1, made 0, s at main:1`)
	wantReport(t, `return nil + 1`, in, `
		line 0.0:1
		throw 0.0:1 error 1
		code 1, ticks 1, made 0, error 1 at main:1`)
	in.Ticks = 2
	wantReport(t, `let a = {}
		print(a)
		print(a)`, in, `
		line 0.0:1
		line 0.0:2
		code 2, ticks 2, made 1`)
	in.Ticks = 0
	wantReport(t, `let a = {}`, in, `code 2, ticks 0, made 0`)
	wantReport(t, `{{}{}}`, in, `code 0, ticks 0, made 0`)
}

// A text without Rest drops its arguments.
func TestP5ArgumentsOfTheText(t *testing.T) {
	in := lots()
	in.Args = []string{"x", "", "y"}
	wantPrints(t, `print(...) print(type((...)), #{1: *...})`, in, "x  y", "str 3")
	u := unitOf(textOf(0, body()))
	if got := told(run(t, u, in)); got != "code 0, ticks 0, made 0" {
		t.Error(got)
	}
}

// All goroutines have ended when Run answers: of tasks that wait, that are in
// the middle of something, and when the ticks are used up within tasks.
func TestP5NothingGoesOn(t *testing.T) {
	wantNoneLeft(t, func() {
		for _, text := range []string{
			`let f = fn() { defer print("never") yield() } for i = 1, 50, 1 { resume(task(f)) }`,
			`let f = fn() { try { defer print("never") yield() } catch a, b { print("never") } } let t = task(f) resume(t) throw 1`,
			`let f f = fn() { try { defer print("never") resume(task(f)) } catch a, b {} while true {} } f()`,
		} {
			u := unitFrom(text)
			for ticks := range 300 {
				in := lots()
				in.Ticks = ticks
				if r := impl.Run(u, in); len(printed(r)) > 0 {
					t.Fatalf("%s\nwith %d ticks tells\n%s", text, ticks, told(r))
				}
			}
		}
	})
}

// wantNoneLeft asks that there are no more goroutines behind something than
// there were ahead of it.
func wantNoneLeft(t *testing.T, do func()) {
	t.Helper()
	before := runtime.NumGoroutine()
	do()
	// The last of a goroutine is done behind its last word to the others.
	for range 100 {
		if runtime.NumGoroutine() <= before {
			return
		}
		time.Sleep(10 * time.Millisecond)
	}
	t.Errorf("%d goroutines before, %d after", before, runtime.NumGoroutine())
}
