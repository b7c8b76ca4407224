package tests

import (
	"reflect"
	"slices"
	"sync"
	"testing"

	"loop.example/meaning/impl"
)

// Asked the same, Run answers the same, also when many ask at once; unit and
// input stay as they were. (The helper run asks so in every test of a run.)
func TestP16Run(t *testing.T) {
	s := sequence(16)
	for range 60 {
		u, in := unitFrom(writeText(&s)), inputFor(&s)
		unit, input := copyUnit(u), copyInput(in)
		reports := make([]impl.Report, 8)
		var wait sync.WaitGroup
		for i := range reports {
			wait.Go(func() { reports[i] = impl.Run(u, in) })
		}
		wait.Wait()
		for _, r := range reports[1:] {
			if !sameReport(r, reports[0]) {
				t.Fatalf("asked at once: %s\nand\n%s", told(reports[0]), told(r))
			}
		}
		if !reflect.DeepEqual(unit, u) || !reflect.DeepEqual(input, in) {
			t.Fatal("the unit or the input was written into")
		}
	}
}

// An answer is new memory: writing into it, or into the unit and the input
// behind the run, is not seen in other answers.
func TestP16NewMemory(t *testing.T) {
	u := unitFrom(`print(...) return 1, ...`)
	in := lots()
	in.Args = []string{"a", "b"}
	first, second := impl.Run(u, in), impl.Run(u, in)
	want := told(second)
	for i := range first.Recs {
		first.Recs[i] = impl.Rec{}
	}
	for i := range first.Vals {
		first.Vals[i] = "x"
	}
	_ = append(first.Recs[:1], impl.Rec{Kind: 9})
	if got := told(second); got != want || told(impl.Run(u, in)) != want {
		t.Errorf("other answers have changed: %s", got)
	}
	in.Args[0] = "c"
	u.Fns[0].Nodes[len(u.Fns[0].Nodes)-1].Kids[0] = 0
	if told(second) != want || !slices.Equal(second.Vals, []string{"1", "a", "b"}) {
		t.Errorf("the answer shares memory with what was given")
	}
}
