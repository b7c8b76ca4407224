package tests

import (
	"math"
	"strings"
	"testing"

	"loop.example/meaning/impl"
)

// Variables stand in the order of their numbers, not in that of their coming.
func TestP12Order(t *testing.T) {
	u := unitFrom(`let a = 1
		let b, c = 2, 3
		for d = 4, 4, 1 {
		  let e = 5
		  print(fn f(p, q) {
		    let r = 6
		    let s = 7
		    print(r)
		  }(8, 9))
		}`)
	text, f := &u.Fns[0], &u.Fns[1]
	text.Vars = strings.Fields("d b e c a")
	f.Vars = strings.Fields("p q s r")
	for n := range text.Nodes {
		renumberNode(&text.Nodes[n], []int{4, 1, 3, 0, 2})
	}
	for n := range f.Nodes {
		renumberNode(&f.Nodes[n], []int{0, 1, 3, 2})
	}
	want := `line: task 0, 0:1
		line: task 0, 0:2 a=1
		line: task 0, 0:3 b=2 c=3 a=1
		line: task 0, 0:4 d=4 b=2 c=3 a=1
		line: task 0, 0:5 d=4 b=2 e=5 c=3 a=1
		call f: task 0, 1:0 p=8 q=9, 0:5 d=4 b=2 e=5 c=3 a=1
		line: task 0, 1:6 p=8 q=9, 0:5 d=4 b=2 e=5 c=3 a=1
		line: task 0, 1:7 p=8 q=9 r=6, 0:5 d=4 b=2 e=5 c=3 a=1
		line: task 0, 1:8 p=8 q=9 s=7 r=6, 0:5 d=4 b=2 e=5 c=3 a=1
		print 6: task 0, 1:8 p=8 q=9 s=7 r=6, 0:5 d=4 b=2 e=5 c=3 a=1
		back: task 0, 1:0 p=8 q=9, 0:5 d=4 b=2 e=5 c=3 a=1
		print: task 0, 0:5 d=4 b=2 e=5 c=3 a=1`
	if got := allSeen(t, u, lots()); got != plain(want) {
		t.Errorf("it shows\n%s\nwant\n%s", got, plain(want))
	}
}

// A value is shown by its Text, whole and as it is.
func TestP12Texts(t *testing.T) {
	full := long(impl.MaxStr)
	u := unitFrom(`let a, b, c, d = nil, true, false, -9223372036854775807 - 1
		let e, f, g, h = 1.5, -(0.0), 1 / 0, 0.0 / 0
		let i, j, k, l = "", "two words", (...), {}
		let m, n, o = fn() {}, task(fn() {}), print
		return`)
	in := lots()
	in.Args = []string{full}
	names := strings.Split("abcdefghijklmno", "")
	texts := []string{"nil", "true", "false", "-9223372036854775808", "3p-1", "-0p0", "inf", "nan", "", "two words", full, "table", "fn", "task", "builtin"}
	got := look(t, u, in, 4)
	if len(got.Calls) != 1 || len(got.Calls[0].Vars) != len(texts) {
		t.Fatalf("it shows %s", seen(got))
	}
	for i, x := range got.Calls[0].Vars {
		if x.Name != names[i] || x.Text != texts[i] {
			t.Errorf("%.20q=%.20q (%d bytes), want %q=%.20q", x.Name, x.Text, len(x.Text), names[i], texts[i])
		}
	}
}

// A task that is new has no open calls, also where an error is thrown in it
// because none can be opened.
func TestP12NoCalls(t *testing.T) {
	in := lots()
	in.Depth = 1
	wantViews(t, `let k = task(fn f() {})
		print(resume(k))
		k = task(fn g() {})
		print(giveup(k))`, in, `
		line: task 0, 0:1
		line: task 0, 0:2 k=task
		turn resume: task 1
		throw error 8: task 1
		turn error: task 0, 0:2 k=task
		print false table: task 0, 0:2 k=task
		line: task 0, 0:3 k=task
		line: task 0, 0:4 k=task
		print true: task 0, 0:4 k=task`)
}

// Where there is no record, nothing is shown.
func TestP12NoRecord(t *testing.T) {
	u := unitFrom(`let a = 1 print(a)`)
	for _, k := range []int{math.MinInt, -100001, -2, -1, 3, 4, 99999, 100000, math.MaxInt} {
		wantNothing(t, u, lots(), k)
	}
	if !look(t, u, lots(), 2).Ok {
		t.Error("the last record shows nothing")
	}
	empty := unitOf(textOf(0, body()))
	for _, k := range []int{-1, 0, 1} {
		wantNothing(t, empty, lots(), k)
	}
}

// What Run refuses has no records.
func TestP12Refused(t *testing.T) {
	u := unitFrom(`print(...)`)
	if !look(t, u, lots(), 0).Ok {
		t.Fatal("the first record shows nothing")
	}
	spoilt := copyUnit(u)
	spoilt.Fns[0].Nodes[0].Num = -1
	for _, bad := range []impl.Unit{{}, spoilt, unitOf(impl.Fn{})} {
		for k := -1; k < 3; k++ {
			wantNothing(t, bad, lots(), k)
		}
	}
	for _, spoil := range []func(*impl.Input){
		func(in *impl.Input) { in.Ticks = -1 },
		func(in *impl.Input) { in.Ticks = maxTicks + 1 },
		func(in *impl.Input) { in.Depth = 0 },
		func(in *impl.Input) { in.Depth = maxDepth + 1 },
		func(in *impl.Input) { in.Cells = -1 },
		func(in *impl.Input) { in.Cells = maxCells + 1 },
		func(in *impl.Input) { in.Args = make([]string, maxInput+1) },
		func(in *impl.Input) { in.Lines = []string{long(impl.MaxStr + 1)} },
	} {
		in := lots()
		spoil(&in)
		for k := -1; k < 3; k++ {
			wantNothing(t, u, in, k)
		}
	}
}

// A run that is over has just the records that were made; they show what they
// show in a longer run.
func TestP12Over(t *testing.T) {
	u := unitFrom(`let k = task(fn f(a) {
		  defer print("never")
		  while true { a = a + yield(a) }
		})
		for i = 1, 100, 1 { print(resume(k, i)) }`)
	whole := lots()
	for ticks := range 60 {
		in := lots()
		in.Ticks = ticks
		made := len(impl.Run(u, in).Recs)
		for _, n := range []int{0, made / 2, made - 1} {
			if got, want := impl.Look(u, in, n), impl.Look(u, whole, n); n >= 0 && n < made && (!got.Ok || !sameView(got, want)) {
				t.Fatalf("with %d ticks record %d shows %s, want %s", ticks, n, seen(got), seen(want))
			}
		}
		wantNothing(t, u, in, made)
		wantNothing(t, u, in, made+1)
	}
}

// All goroutines have ended when Look answers, whatever the record at which the
// run is looked at.
func TestP12NothingGoesOn(t *testing.T) {
	in := lots()
	in.Ticks = 300
	wantNoneLeft(t, func() {
		for _, text := range []string{
			`let f = fn() { defer print("never") yield() } for i = 1, 20, 1 { resume(task(f)) }`,
			`let f f = fn(n) { try { defer print(n) if n > 0 { resume(task(f), n - 1) } yield() } catch a, b {} } let t = task(f) resume(t, 9) giveup(t)`,
			`let f f = fn(n) { setkind({}, {last: f}) if n { resume(task(f)) } collect() } f(1)`,
		} {
			u := unitFrom(text)
			for k := range len(impl.Run(u, in).Recs) {
				if !impl.Look(u, in, k).Ok {
					t.Fatalf("record %d of\n%s\nshows nothing", k, text)
				}
			}
		}
	})
}

// A view is new memory: what is written into it is seen nowhere else.
func TestP12NewMemory(t *testing.T) {
	u := unitFrom(`let a, b = 1, 2
		fn f(c, d) { print(c, d) }(a, b)`)
	const k = 3
	want := "task 0, 1:2 c=1 d=2, 0:2 a=1 b=2"
	first, second := impl.Look(u, lots(), k), impl.Look(u, lots(), k)
	vars := first.Calls[0].Vars
	_ = append(vars[:1], impl.Shown{Name: "x"}, impl.Shown{Name: "y"}, impl.Shown{Name: "z"})
	if got := seen(impl.View{Calls: first.Calls[1:], Ok: true}); got != "task 0, 0:2 a=1 b=2" {
		t.Errorf("two lists of a view share memory: %s", got)
	}
	for i := range first.Calls {
		clear(first.Calls[i].Vars)
	}
	clear(first.Calls)
	if got := seen(second); got != want {
		t.Errorf("an earlier view shows %s, want %s", got, want)
	}
	if got := seen(look(t, u, lots(), k)); got != want {
		t.Errorf("a later view shows %s, want %s", got, want)
	}
}
