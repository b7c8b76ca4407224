package tests

import (
	"fmt"
	"testing"

	"loop.example/meaning/impl"
)

// renamed gives every variable another name, some of them the same.
func renamed(s *sequence, u impl.Unit) impl.Unit {
	c := copyUnit(u)
	for f := range c.Fns {
		for v := range c.Fns[f].Vars {
			c.Fns[f].Vars[v] = fmt.Sprint(long(1+int(s.next()%30)), s.next()%3)
		}
	}
	return c
}

// blockAround has a further NBlock around the body of the fn.
func blockAround(u impl.Unit, fn int) impl.Unit {
	c := copyUnit(u)
	nodes := c.Fns[fn].Nodes
	c.Fns[fn].Nodes = append(nodes, begins(impl.NBlock, 1+len(nodes)%7, len(nodes)-1))
	return c
}

func TestP8NamesAndBlocks(t *testing.T) {
	s := sequence(8)
	for i := range 800 {
		text := writeText(&s)
		u, in := unitFrom(text), inputFor(&s)
		want := impl.Run(u, in)
		all := u
		for f := range u.Fns {
			all = blockAround(all, f)
		}
		others := map[string]impl.Unit{"with other names": renamed(&s, u), "with a block around one fn": blockAround(u, int(s.next()%uint64(len(u.Fns)))), "with a block around each": all}
		for what, other := range others {
			if impl.CheckUnit(other) != (impl.Fault{}) {
				continue
			}
			if got := impl.Run(other, in); !sameReport(got, want) {
				t.Fatalf("text %d\n%s\ntells\n%s\n%s\n%s", i, text, told(want), what, told(got))
			}
		}
	}
}

// The names of fns are told, by calls and traces; the names of variables are
// not.
func TestP8NamesOfFns(t *testing.T) {
	u := unitFrom(`let f = fn one(a) { throw a } f(1)`)
	r := run(t, u, lots())
	u.Fns[1].Name = "two"
	if got := run(t, u, lots()); got.Trace != "two:1 main:1" || r.Trace != "one:1 main:1" || sameReport(got, r) {
		t.Errorf("%s\n%s", told(r), told(got))
	}
}
