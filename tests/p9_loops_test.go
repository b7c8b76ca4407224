package tests

import (
	"fmt"
	"slices"
	"strings"
	"testing"

	"loop.example/meaning/impl"
)

// loopOf prints the numbers of a loop.
func loopOf(from, to, step int64) impl.Unit {
	return unitOf(textOf(1,
		counts(impl.NInt, from), counts(impl.NInt, to), counts(impl.NInt, step),
		counts(impl.NBuiltin, impl.BPrint), names(impl.NVar, 0), has(impl.NCall, 3, 4), begins(impl.NDo, 2, 5), begins(impl.NBlock, 1, 6),
		declares(impl.NFor, 1, []int{0}, 0, 1, 2, 7), body(8)))
}

func TestP9Loops(t *testing.T) {
	for from := int64(-20); from <= 20; from++ {
		for to := int64(-20); to <= 20; to++ {
			for step := int64(-20); step <= 20; step++ {
				if step == 0 {
					continue
				}
				var want []string
				for n := from; (step < 0 || n <= to) && (step > 0 || n >= to); n += step {
					want = append(want, fmt.Sprint(n))
				}
				r := impl.Run(loopOf(from, to, step), lots())
				if got := printed(r); r.Code != 0 || !slices.Equal(got, want) || r.Ticks != 1+3*len(want) {
					t.Fatalf("from %d to %d by %d: %v, code %d, %d ticks", from, to, step, got, r.Code, r.Ticks)
				}
			}
		}
	}
	if r := run(t, loopOf(1, 5, 0), lots()); r.Error != "error 14" {
		t.Error(told(r))
	}
}

// nested is n fns, each called by the one before; the last throws.
func nested(n int, caught bool) (text string, trace []string) {
	var b strings.Builder
	line := 1
	write := func(form string, args ...any) {
		fmt.Fprintf(&b, form+"\n", args...)
		line++
	}
	for i := range n {
		write("let f%d", i+1)
	}
	for i := n; i >= 1; i-- {
		write("f%d = fn f%d() {", i, i)
		write("defer print(%d)", i)
		if i == n {
			write(`throw "x"`)
		} else {
			write("f%d()", i+1)
		}
		trace = append(trace, fmt.Sprintf("f%d:%d", i, line-1))
		write("}")
	}
	if caught {
		write("try { f1() } catch e, s { print(e, s) }")
	} else {
		write("f1()")
	}
	return b.String(), append(trace, fmt.Sprintf("main:%d", line-1))
}

func TestP9Defers(t *testing.T) {
	for n := 1; n <= 40; n++ {
		text, trace := nested(n, false)
		var want []string
		for i := n; i >= 1; i-- {
			want = append(want, fmt.Sprint(i))
		}
		in := lots()
		in.Depth = n + 1
		r := run(t, unitFrom(text), in)
		if r.Code != 1 || r.Error != "x" || r.Trace != strings.Join(trace, " ") || !slices.Equal(printed(r), want) {
			t.Errorf("%d fns: %s at %s, prints %v", n, r.Error, r.Trace, printed(r))
		}
		if backs := recordsOf(r, impl.RecBack); len(backs) != n || backs[0].Fn != 1 || backs[0].Text != "error" || backs[n-1].Text != "error" {
			t.Errorf("%d fns: ends of calls %v", n, backs)
		}
		text, trace = nested(n, true)
		wantPrints(t, text, in, append(want, "x "+strings.Join(trace, " "))...)
	}
}
