package tests

import (
	"slices"
	"testing"

	"loop.example/meaning/impl"
)

// renumbered gives the variables of each fn but its parameters other numbers,
// so that they do not come into scope in their order.
func renumbered(u impl.Unit, s *sequence) impl.Unit {
	u = copyUnit(u)
	var numbers [][]int
	for f := range u.Fns {
		fn := &u.Fns[f]
		numbers = append(numbers, shuffled(s, fn.Params, len(fn.Vars)))
		vars := slices.Clone(fn.Vars)
		for v, name := range vars {
			fn.Vars[numbers[f][v]] = name
		}
		for n := range fn.Nodes {
			renumberNode(&fn.Nodes[n], numbers[f])
		}
	}
	for f := range u.Fns {
		for _, node := range u.Fns[f].Nodes {
			if node.Kind == impl.NFn {
				renumberUps(u.Fns[node.Refs[0]].Ups, numbers[f])
			}
		}
	}
	return u
}

// shuffled has 0 .. all - 1 in any order, but those below first as they are.
func shuffled(s *sequence, first, all int) []int {
	var row []int
	for i := range all {
		row = append(row, i)
		if i > first {
			j := first + int(s.next()%uint64(i-first+1))
			row[i], row[j] = row[j], row[i]
		}
	}
	return row
}

func renumberNode(n *impl.Node, numbers []int) {
	switch n.Kind {
	case impl.NVar, impl.NLet, impl.NFor, impl.NEach, impl.NTry:
		for i, v := range n.Refs {
			n.Refs[i] = numbers[v]
		}
	}
}

func renumberUps(ups []impl.Up, numbers []int) {
	for i, up := range ups {
		if up.Local {
			ups[i].Index = numbers[up.Index]
		}
	}
}

// wantModelViews looks at some records of a run, and at either side of them.
func wantModelViews(t *testing.T, u impl.Unit, in impl.Input, s *sequence, text string) {
	t.Helper()
	views := modelViews(u, in)
	step := 1 + len(views)/25
	for k := int(s.next() % uint64(step)); k < len(views); k += step {
		if got := impl.Look(u, in, k); !sameView(got, views[k]) {
			t.Fatalf("with %v, record %d of %d of\n%s\nshows %s\nwant %s", in, k, len(views), text, seen(got), seen(views[k]))
		}
	}
	wantNothing(t, u, in, -1-int(s.next()%3))
	wantNothing(t, u, in, len(views)+int(s.next()%3))
}

// Texts that are written by chance show what they do on the model.
func TestP12AnyText(t *testing.T) {
	s := sequence(12)
	for range 400 {
		text := writeText(&s)
		wantModelViews(t, renumbered(unitFrom(text), &s), inputFor(&s), &s, text)
	}
}

// So do units that are grown by chance.
func TestP12AnyUnit(t *testing.T) {
	s := sequence(1212)
	for range 1000 {
		wantModelViews(t, renumbered(grow(&s), &s), inputFor(&s), &s, "a unit that was grown")
	}
}
