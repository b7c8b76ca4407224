package tests

import (
	"slices"
	"sync"
	"testing"

	"loop.example/meaning/impl"
)

// Asked the same, Run answers the same, also when many ask at once; unit and
// input stay as they were. (The helpers run and look ask so in every test of a
// run.)
func TestP16Run(t *testing.T) {
	s := sequence(16)
	for range 60 {
		u, in := unitFrom(writeText(&s)), inputFor(&s)
		check := unchanged(t, u, in)
		reports := make([]impl.Report, 8)
		var wait sync.WaitGroup
		for i := range reports {
			wait.Go(func() { reports[i] = impl.Run(u, in) })
		}
		wait.Wait()
		for _, r := range reports[1:] {
			if !sameReport(r, reports[0]) {
				t.Fatalf("asked at once: %s\nand\n%s", told(reports[0]), told(r))
			}
		}
		check()
	}
}

// So does Look, beside others that look and run.
func TestP16Look(t *testing.T) {
	s := sequence(1616)
	for range 40 {
		u, in := unitFrom(writeText(&s)), inputFor(&s)
		check := unchanged(t, u, in)
		report := impl.Run(u, in)
		k := int(s.next() % uint64(len(report.Recs)+1))
		views, reports := make([]impl.View, 6), make([]impl.Report, 2)
		var wait sync.WaitGroup
		for i := range views {
			wait.Go(func() { views[i] = impl.Look(u, in, k) })
		}
		for i := range reports {
			wait.Go(func() { reports[i] = impl.Run(u, in) })
		}
		wait.Wait()
		for _, v := range views {
			if v.Ok != (k < len(report.Recs)) || !sameView(v, views[0]) {
				t.Fatalf("asked at once: %s\nand\n%s", seen(views[0]), seen(v))
			}
		}
		for _, r := range reports {
			if !sameReport(r, report) {
				t.Fatalf("beside views: %s\nand alone\n%s", told(r), told(report))
			}
		}
		check()
	}
}

// An answer is new memory: writing into it, or into the unit and the input
// behind the run, is not seen in other answers.
func TestP16NewMemory(t *testing.T) {
	u := unitFrom(`print(...) return 1, ...`)
	in := lots()
	in.Args = []string{"a", "b"}
	first, second := impl.Run(u, in), impl.Run(u, in)
	want := told(second)
	for i := range first.Recs {
		first.Recs[i] = impl.Rec{}
	}
	for i := range first.Vals {
		first.Vals[i] = "x"
	}
	_ = append(first.Recs[:1], impl.Rec{Kind: 9})
	if got := told(second); got != want || told(impl.Run(u, in)) != want {
		t.Errorf("other answers have changed: %s", got)
	}
	in.Args[0] = "c"
	u.Fns[0].Nodes[len(u.Fns[0].Nodes)-1].Kids[0] = 0
	if told(second) != want || !slices.Equal(second.Vals, []string{"1", "a", "b"}) {
		t.Errorf("the answer shares memory with what was given")
	}
}
