package tests

import (
	"fmt"
	"testing"

	"loop.example/meaning/impl"
)

// Units that are grown by chance have no fault, whatever the order of their
// nodes' numbers.
func TestP4GrownUnitsAreValid(t *testing.T) {
	s := sequence(4)
	for i := range 600 {
		u := grow(&s)
		if u2 := (model{u}); u2.fault() != (impl.Fault{}) {
			t.Fatalf("unit %d: the model finds %v", i, u2.fault())
		}
		wantValid(t, fmt.Sprintf("grown unit %d", i), u)
	}
}

// Units that are spoilt in one to four places have the fault that the model
// finds.
func TestP4SpoiltUnits(t *testing.T) {
	found := map[int]int{}
	s := sequence(44)
	for i := range 9000 {
		u := grow(&s)
		spoil(&s, &u)
		want := model{u}.fault()
		found[want.Code]++
		wantFault(t, fmt.Sprintf("spoilt unit %d", i), u, want)
		if t.Failed() {
			t.FailNow()
		}
	}
	for _, code := range []int{0, 2, 3, 4, 6, 7, 8, 9} {
		if found[code] < 100 {
			t.Errorf("only %d of the units have the fault %d: too few to tell", found[code], code)
		}
	}
}

func spoil(s *sequence, u *impl.Unit) {
	p := spoiler{s, u}
	ways := []func(){p.inNames, p.inNames, p.inOrder, p.inOrder, p.inForm, p.inTree, p.inFns}
	way := p.pick(len(ways))
	for range 1 + p.pick(4) {
		ways[way]()
		if p.pick(4) == 0 {
			way = p.pick(len(ways))
		}
	}
}
