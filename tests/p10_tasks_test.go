package tests

import (
	"fmt"
	"slices"
	"testing"

	"loop.example/meaning/impl"
)

func TestP10Yields(t *testing.T) {
	for n := range 21 {
		text := fmt.Sprintf(`
			let t = task(fn(n) { for i = 1, n, 1 { n = yield(i) } return "end" })
			for i = 0, %d, 1 { print(resume(t, %d), i) print(status(t)) }
			try { resume(t) } catch e, s { print(e.code) }
			print(status(t))`, n, n)
		r := run(t, unitFrom(text), lots())
		var want []string
		var turns []impl.Rec
		for i := range n + 1 {
			state, back := "waiting", "yield"
			if i == n {
				state, back = "done", "done"
			}
			want = append(want, fmt.Sprint("true ", i), state)
			turns = append(turns, impl.Rec{Kind: impl.RecTurn, Task: 1, Text: "resume"}, impl.Rec{Kind: impl.RecTurn, Text: back})
		}
		if got := printed(r); r.Code != 0 || !slices.Equal(got, append(want, "10", "done")) {
			t.Errorf("%d yields: prints %v, %s", n, got, r.Error)
		}
		if got := recordsOf(r, impl.RecTurn); !slices.Equal(got, turns) {
			t.Errorf("%d yields: the turns are %v", n, got)
		}
		if throws := recordsOf(r, impl.RecThrow); len(throws) != 1 || throws[0] != (impl.Rec{Kind: impl.RecThrow, Line: 4, Text: "error 10"}) {
			t.Errorf("%d yields: thrown was %v", n, throws)
		}
	}
}

// Given up in the middle, it gets the turn once more and gives it back.
func TestP10GivenUp(t *testing.T) {
	for n := 1; n <= 20; n++ {
		text := fmt.Sprintf(`
			let t = task(fn() { while true { yield() } })
			for i = 1, %d, 1 { resume(t) }
			print(giveup(t))
			print(status(t))
			try { resume(t) } catch e, s { print(e.code) }`, n)
		r := run(t, unitFrom(text), lots())
		turns := recordsOf(r, impl.RecTurn)
		if got := printed(r); !slices.Equal(got, []string{"true", "done", "10"}) || len(turns) != 2*n+2 || turns[2*n].Text != "giveup" || turns[2*n].Task != 1 || turns[2*n+1] != (impl.Rec{Kind: impl.RecTurn, Text: "gone"}) {
			t.Errorf("%d turns: prints %v, the turns are %v", n, got, turns)
		}
	}
}
