package tests

import (
	"fmt"
	"slices"
	"testing"

	"loop.example/meaning/impl"
)

func TestP4OrdinaryUnits(t *testing.T) {
	wantValid(t, "nothing but a body", unitOf(textOf(0, body())))
	wantValid(t, "the sampler", sampler())
	if got := impl.Lines(sampler()); !slices.Equal(got, []int{2, 3, 4, 5, 6, 8, 9, 10, 11, 12, 13, 14, 15, 16, 17, 18, 100000}) {
		t.Errorf("Lines of the sampler are %v", got)
	}
	if got := impl.Lines(unitOf(textOf(0, body()))); len(got) != 0 {
		t.Errorf("Lines of nothing but a body are %v", got)
	}
}

// Every kind stands in the sampler, so what is asked of each is asked there.
func TestP4SamplerHasEveryKind(t *testing.T) {
	seen := map[int]bool{}
	for _, fn := range sampler().Fns {
		for _, n := range fn.Nodes {
			seen[n.Kind] = true
		}
	}
	for kind := range theRules {
		if !seen[kind] {
			t.Errorf("no node of the kind %d", kind)
		}
	}
}

func TestP4LinesAreNewMemory(t *testing.T) {
	u := sampler()
	first := impl.Lines(u)
	first[0] = -5
	if got := impl.Lines(u); got[0] != 2 {
		t.Errorf("Lines once more begins with %d, want 2", got[0])
	}
}

func TestP4LinesOfAllFnsAscendEachOnce(t *testing.T) {
	u := unitOf(
		textOf(0,
			names(impl.NFn, 1), begins(impl.NReturn, 9, 0), begins(impl.NReturn, 3), begins(impl.NReturn, 9), begins(impl.NReturn, 100000),
			begins(impl.NBlock, 50000, 1, 2, 3, 4)),
		textOf(0, begins(impl.NReturn, 1), begins(impl.NReturn, 3), begins(impl.NReturn, 5), begins(impl.NBlock, 7, 0, 1, 2)),
	)
	if got := impl.Lines(u); !slices.Equal(got, []int{1, 3, 5, 9, 100000}) {
		t.Errorf("Lines are %v", got)
	}
}

// In every node of the sampler, every field that its kind does not use is
// filled; every one that it uses, given what it may not be.
func TestP4FieldsOfEveryKind(t *testing.T) {
	fills := map[string]func(n *impl.Node){
		"Op":   func(n *impl.Node) { n.Op = 1 },
		"Num":  func(n *impl.Node) { n.Num = 1 },
		"Flt":  func(n *impl.Node) { n.Flt = 5e-324 },
		"Str":  func(n *impl.Node) { n.Str = "\x00" },
		"Refs": func(n *impl.Node) { n.Refs = []int{0} },
		"Kids": func(n *impl.Node) { n.Kids = []int{0} },
	}
	uses := map[string][]int{
		"Op":   {31, 32, 35},
		"Num":  {3, 23, 28},
		"Flt":  {24},
		"Str":  {25},
		"Refs": {2, 7, 8, 12, 26, 27, 36},
		"Kids": {1, 2, 3, 4, 5, 6, 7, 8, 11, 12, 13, 14, 29, 30, 31, 32, 33, 34, 35, 38},
	}
	for f, fn := range sampler().Fns {
		for n, node := range fn.Nodes {
			for field, fill := range fills {
				if slices.Contains(uses[field], node.Kind) {
					continue
				}
				u := sampler()
				fill(&u.Fns[f].Nodes[n])
				wantFault(t, fmt.Sprintf("fn %d, node %d of the kind %d with a %s", f, n, node.Kind, field), u, fault(3, f, n))
			}
		}
	}
}

// A zero of either sign is no Flt at all.
func TestP4UnusedFloatMayBeMinusZero(t *testing.T) {
	u := sampler()
	for f := range u.Fns {
		for n := range u.Fns[f].Nodes {
			if node := &u.Fns[f].Nodes[n]; node.Flt == 0 {
				node.Flt = minusZero
			}
		}
	}
	wantValid(t, "-0.0 in every Flt that is not used", u)
}

// Each node of the sampler is given every kind, Line and Op there is, one more
// and one less Ref and kid, and every other kid: the model says what is wrong.
func TestP4SamplerSpoiltEverywhere(t *testing.T) {
	for f, fn := range sampler().Fns {
		for n := range fn.Nodes {
			for i, change := range changesOf(fn, n) {
				u := sampler()
				change(&u.Fns[f].Nodes[n])
				wantFault(t, fmt.Sprintf("fn %d, node %d, change %d", f, n, i), u, model{u}.fault())
			}
		}
	}
}

func changesOf(fn impl.Fn, n int) []func(n *impl.Node) {
	var changes []func(n *impl.Node)
	add := func(change func(n *impl.Node)) { changes = append(changes, change) }
	for kind := -1; kind <= 40; kind++ {
		add(func(n *impl.Node) { n.Kind = kind })
		add(func(n *impl.Node) { n.Op = kind })
		add(func(n *impl.Node) { n.Num = int64(kind) })
	}
	for _, line := range []int{-1, 0, 1, 100000, 100001} {
		add(func(n *impl.Node) { n.Line = line })
	}
	add(func(n *impl.Node) { n.Refs = append(n.Refs, 0) })
	add(func(n *impl.Node) { n.Refs = n.Refs[:max(0, len(n.Refs)-1)] })
	for place := range fn.Nodes[n].Kids {
		add(func(n *impl.Node) { n.Kids = slices.Delete(n.Kids, place, place+1) })
		for kid := -1; kid <= len(fn.Nodes); kid++ {
			add(func(n *impl.Node) { n.Kids[place] = kid })
		}
	}
	for kid := -1; kid <= len(fn.Nodes); kid++ {
		add(func(n *impl.Node) { n.Kids = append(n.Kids, kid) })
	}
	return changes
}

func TestP4WildNumbers(t *testing.T) {
	for _, wild := range []int{leastInt, leastInt + 1, -1 << 32, -1, 39, 63, 64, 65, 1 << 32, greatestInt} {
		for what, change := range map[string]func(n *impl.Node){
			"Kind":    func(n *impl.Node) { n.Kind = wild },
			"Line":    func(n *impl.Node) { *n = begins(impl.NReturn, 1); n.Line = -max(wild, -wild) },
			"Op":      func(n *impl.Node) { *n = operates(impl.NBinary, wild, 0, 1) },
			"targets": func(n *impl.Node) { *n = sets(1, int64(wild), 0, 1) },
			"builtin": func(n *impl.Node) { *n = counts(impl.NBuiltin, int64(wild)) },
			"kid":     func(n *impl.Node) { *n = has(impl.NAnd, 0, wild) },
		} {
			u := unitOf(textOf(1, has(impl.NNil), has(impl.NNil), has(impl.NNil), begins(impl.NReturn, 1, 2), body(3)))
			change(&u.Fns[0].Nodes[2])
			wantFault(t, fmt.Sprintf("%s %d", what, wild), u, fault(3, 0, 2))
		}
		for _, kind := range []int{impl.NVar, impl.NUp, impl.NFn} {
			u := unitOf(textOf(1, names(kind, wild), begins(impl.NReturn, 1, 0), body(1)))
			wantFault(t, fmt.Sprintf("the Ref %d of the kind %d", wild, kind), u, fault(6, 0, 0))
		}
		u := unitOf(textOf(1, declares(impl.NLet, 1, []int{wild}), body(0)))
		wantFault(t, fmt.Sprintf("the variable %d is declared", wild), u, fault(6, 0, 0))
		for _, local := range []bool{true, false} {
			u := unitOf(textOf(1, names(impl.NFn, 1), begins(impl.NReturn, 1, 0), body(1)), textOf(0, body()))
			u.Fns[1].Ups = []impl.Up{{Local: local, Index: wild}}
			wantFault(t, fmt.Sprintf("%d is closed over, local %v", wild, local), u, fault(8, 0, 0))
		}
	}
}

// Every kid of a statement is ahead of it: a tree that bites its own tail is
// no tree.
func TestP4KidsComeAheadOfParents(t *testing.T) {
	wantFault(t, "a block in itself", unitOf(textOf(0, body(0))), fault(3, 0, 0))
	wantFault(t, "a kid behind", unitOf(textOf(0, body(1), body(0))), fault(3, 0, 0))
	wantFault(t, "a kid below 0", unitOf(textOf(0, body(), body(0, -1))), fault(3, 0, 1))
}

// The first by its code, then by its fn, then by its node.
func TestP4FirstOfSeveralFaults(t *testing.T) {
	all := func() impl.Unit {
		return unitOf(
			textOf(0, begins(impl.NBreak, 1), has(impl.NRest), begins(impl.NReturn, 1, 1), body(0, 2)),
			textOf(1, names(impl.NVar, 0), begins(impl.NReturn, 1, 0), names(impl.NVar, 3), begins(impl.NReturn, 1, 2), body(1, 3)),
			textOf(0, begins(impl.NReturn, 1), begins(impl.NReturn, 1), body(1)),
			textOf(0, begins(impl.NReturn, 0), begins(impl.NReturn, 0), body(0, 1)),
			impl.Fn{Line: -1, Nodes: []impl.Node{body()}},
			impl.Fn{},
		)
	}
	steps := []struct {
		want impl.Fault
		mend func(u *impl.Unit)
	}{
		{fault(2, 4, 0), func(u *impl.Unit) { u.Fns[4].Line = 0 }},
		{fault(2, 5, 0), func(u *impl.Unit) { u.Fns[5].Nodes = []impl.Node{body()} }},
		{fault(3, 3, 0), func(u *impl.Unit) { u.Fns[3].Nodes[0].Line = 1 }},
		{fault(3, 3, 1), func(u *impl.Unit) { u.Fns[3].Nodes[1].Line = 1 }},
		{fault(4, 2, 0), func(u *impl.Unit) { u.Fns[2].Nodes[2].Kids = []int{0, 1} }},
		{fault(6, 1, 0), func(u *impl.Unit) { u.Fns[1].Params = 1 }},
		{fault(6, 1, 2), func(u *impl.Unit) { u.Fns[1].Nodes[2].Refs[0] = 0 }},
		{fault(7, 0, 0), func(u *impl.Unit) { u.Fns[0].Nodes[0] = begins(impl.NReturn, 1) }},
		{fault(8, 0, 1), func(u *impl.Unit) { u.Fns[0].Rest = true }},
		{fault(9, 1, 0), func(u *impl.Unit) { u.Fns = u.Fns[:1] }},
		{impl.Fault{}, nil},
	}
	u := all()
	for _, step := range steps {
		wantFault(t, fmt.Sprint("with the fault ", step.want), u, step.want)
		if step.mend != nil {
			step.mend(&u)
		}
	}
}

func TestP4EachCodeComesAheadOfTheNext(t *testing.T) {
	sized := unitOf(slices.Repeat([]impl.Fn{{}}, 301)...)
	wantFault(t, "1 ahead of 2", sized, fault(1, 0, 0))
	late := textOf(0, body())
	late.Line = -1
	wantFault(t, "2 in a late fn ahead of 3 in an early one", unitOf(textOf(0, has(99)), late), fault(2, 1, 0))
	wantFault(t, "3 ahead of 4", unitOf(textOf(0, begins(impl.NReturn, 1), body()), textOf(0, has(99))), fault(3, 1, 0))
	wantFault(t, "4 ahead of 5", unitOf(deep(101), textOf(0, has(impl.NNil))), fault(4, 1, 0))
	wantFault(t, "5 ahead of 6", unitOf(textOf(0, names(impl.NVar, 0), begins(impl.NReturn, 1, 0), body(1)), deep(101)), fault(5, 1, 0))
	wantFault(t, "6 ahead of 7", unitOf(textOf(0, begins(impl.NBreak, 1), body(0)), textOf(0, names(impl.NUp, 0), begins(impl.NReturn, 1, 0), body(1))), fault(6, 1, 0))
	wantFault(t, "7 ahead of 8", unitOf(textOf(0, names(impl.NFn, 0), begins(impl.NReturn, 1, 0), body(1)), textOf(0, begins(impl.NNext, 1), body(0))), fault(7, 1, 0))
	wantFault(t, "8 ahead of 9", unitOf(textOf(0, body()), textOf(0, has(impl.NRest), begins(impl.NReturn, 1, 0), body(1))), fault(8, 1, 0))
}

func TestP4FaultsOfFns(t *testing.T) {
	for i, c := range []struct {
		spoil func(u *impl.Unit)
		want  impl.Fault
	}{
		{func(u *impl.Unit) { u.Fns = nil }, fault(1, 0, 0)},
		{func(u *impl.Unit) { u.Fns = []impl.Fn{} }, fault(1, 0, 0)},
		{func(u *impl.Unit) { u.Fns[0].Nodes = nil }, fault(2, 0, 0)},
		{func(u *impl.Unit) { u.Fns[2].Nodes = []impl.Node{} }, fault(2, 2, 0)},
		{func(u *impl.Unit) { u.Fns[0].Params = 1 }, fault(2, 0, 0)},
		{func(u *impl.Unit) { u.Fns[0].Params = -1 }, fault(2, 0, 0)},
		{func(u *impl.Unit) { u.Fns[0].Ups = []impl.Up{{}} }, fault(2, 0, 0)},
		{func(u *impl.Unit) { u.Fns[1].Params = -1 }, fault(2, 1, 0)},
		{func(u *impl.Unit) { u.Fns[1].Params = 3 }, fault(2, 1, 0)},
		{func(u *impl.Unit) { u.Fns[1].Params = greatestInt }, fault(2, 1, 0)},
		{func(u *impl.Unit) { u.Fns[1].Line = -1 }, fault(2, 1, 0)},
		{func(u *impl.Unit) { u.Fns[2].Line = 100001 }, fault(2, 2, 0)},
		{func(u *impl.Unit) { u.Fns[0].Line = leastInt }, fault(2, 0, 0)},
		{func(u *impl.Unit) { u.Fns[2].Name = wide(41) }, fault(2, 2, 0)},
		{func(u *impl.Unit) { u.Fns[1].Vars[1] = "" }, fault(2, 1, 0)},
		{func(u *impl.Unit) { u.Fns[0].Vars[9] = wide(41) }, fault(2, 0, 0)},
	} {
		u := sampler()
		c.spoil(&u)
		wantFault(t, fmt.Sprintf("case %d", i), u, c.want)
	}
}

// What may stand and what may not, by kind: the nodes ahead are given, the one
// that is asked for comes behind them, and Refs are not looked at yet.
func TestP4Forms(t *testing.T) {
	const nothing, one, callee, called, rest, variable, up, entry, block, choice, jump = 0, 1, 2, 3, 4, 5, 6, 7, 8, 9, 10
	ahead := []impl.Node{
		nothing:  has(impl.NNil),
		one:      counts(impl.NInt, 1),
		callee:   has(impl.NTrue),
		called:   has(impl.NCall, callee),
		rest:     has(impl.NRest),
		variable: names(impl.NVar, 0),
		up:       names(impl.NUp, 0),
		entry:    has(impl.NIndex, variable, one),
		block:    begins(impl.NBlock, 1),
		choice:   begins(impl.NIf, 1, one, block),
		jump:     begins(impl.NBreak, 1),
	}
	for _, c := range []struct {
		fits bool
		node impl.Node
	}{
		{true, begins(impl.NBlock, 1, block, choice, jump)},
		{false, begins(impl.NBlock, 1, block, one)},
		{true, declares(impl.NLet, 1, []int{0})},
		{true, declares(impl.NLet, 1, []int{0, 1, 2, 3, 4, 5, 6}, nothing, called)},
		{false, declares(impl.NLet, 1, nil, nothing)},
		{false, declares(impl.NLet, 1, []int{0}, block)},
		{true, sets(1, 1, variable, nothing)},
		{true, sets(1, 3, variable, up, entry, called, rest)},
		{true, sets(1, 2, variable, up, entry)},
		{false, sets(1, 3, variable, up, entry)},
		{false, sets(1, 4, variable, up, entry)},
		{false, sets(1, 0, nothing)},
		{false, sets(1, -1, variable, nothing)},
		{false, sets(1, 1, nothing, nothing)},
		{false, sets(1, 1, called, nothing)},
		{false, sets(1, 1, variable)},
		{false, sets(1, 1, variable, block)},
		{true, begins(impl.NDo, 1, called)},
		{false, begins(impl.NDo, 1, rest)},
		{false, begins(impl.NDo, 1)},
		{false, begins(impl.NDo, 1, called, called)},
		{true, begins(impl.NDefer, 1, called)},
		{false, begins(impl.NDefer, 1, one)},
		{false, begins(impl.NDefer, 1)},
		{true, begins(impl.NIf, 1, one, block)},
		{true, begins(impl.NIf, 1, one, block, block)},
		{true, begins(impl.NIf, 1, one, block, choice)},
		{false, begins(impl.NIf, 1, one, block, jump)},
		{false, begins(impl.NIf, 1, one, choice)},
		{false, begins(impl.NIf, 1, one)},
		{false, begins(impl.NIf, 1, block, block)},
		{false, begins(impl.NIf, 1, one, block, block, block)},
		{true, begins(impl.NWhile, 1, rest, block)},
		{false, begins(impl.NWhile, 1, rest, jump)},
		{false, begins(impl.NWhile, 1, block)},
		{false, declares(impl.NWhile, 1, []int{0}, rest, block)},
		{true, declares(impl.NFor, 1, []int{0}, one, one, one, block)},
		{false, declares(impl.NFor, 1, []int{0}, one, one, block)},
		{false, declares(impl.NFor, 1, []int{0}, one, one, one, one)},
		{false, declares(impl.NFor, 1, []int{0, 1}, one, one, one, block)},
		{false, declares(impl.NFor, 1, nil, one, one, one, block)},
		{true, declares(impl.NEach, 1, []int{0}, one, block)},
		{true, declares(impl.NEach, 1, []int{0, 1, 2, 3}, one, block)},
		{false, declares(impl.NEach, 1, []int{0, 1, 2, 3, 4}, one, block)},
		{false, declares(impl.NEach, 1, nil, one, block)},
		{false, declares(impl.NEach, 1, []int{0}, block, one)},
		{false, begins(impl.NBreak, 1, one)},
		{false, begins(impl.NNext, 1, one)},
		{true, begins(impl.NReturn, 1)},
		{true, begins(impl.NReturn, 1, one, rest)},
		{false, begins(impl.NReturn, 1, block)},
		{true, declares(impl.NTry, 1, []int{0, 1}, block, block)},
		{false, declares(impl.NTry, 1, []int{0}, block, block)},
		{false, declares(impl.NTry, 1, []int{0, 1, 2}, block, block)},
		{false, declares(impl.NTry, 1, []int{0, 1}, block, choice)},
		{false, declares(impl.NTry, 1, []int{0, 1}, block)},
		{true, begins(impl.NThrow, 1, called)},
		{false, begins(impl.NThrow, 1)},
		{false, begins(impl.NThrow, 1, one, one)},
		{true, names(impl.NVar, 0)},
		{false, names(impl.NVar)},
		{false, names(impl.NUp, 0, 0)},
		{false, names(impl.NFn)},
		{true, counts(impl.NBuiltin, 0)},
		{true, counts(impl.NBuiltin, 14)},
		{false, counts(impl.NBuiltin, 15)},
		{false, counts(impl.NBuiltin, -1)},
		{true, counts(impl.NInt, leastInt)},
		{true, has(impl.NAnd, one, rest)},
		{false, has(impl.NAnd, one)},
		{false, has(impl.NOr, one, one, one)},
		{false, has(impl.NOr, one, block)},
		{false, has(impl.NIndex, one)},
		{true, operates(impl.NUnary, 19, one)},
		{true, operates(impl.NUnary, 22, one)},
		{false, operates(impl.NUnary, 18, one)},
		{false, operates(impl.NUnary, 23, one)},
		{false, operates(impl.NUnary, 19, one, one)},
		{true, operates(impl.NBinary, 1, one, one)},
		{true, operates(impl.NBinary, 18, one, one)},
		{false, operates(impl.NBinary, 0, one, one)},
		{false, operates(impl.NBinary, 19, one, one)},
		{false, operates(impl.NBinary, 1, one)},
		{true, has(impl.NCall, nothing)},
		{true, has(impl.NCall, nothing, one, rest)},
		{false, has(impl.NCall)},
		{false, has(impl.NCall, nothing, block)},
		{true, operates(impl.NTable, 0)},
		{true, operates(impl.NTable, 0, nothing, rest)},
		{false, operates(impl.NTable, 0, nothing)},
		{false, operates(impl.NTable, 0, nothing, block)},
		{false, operates(impl.NTable, 1)},
		{true, operates(impl.NTable, 1, one, rest)},
		{true, operates(impl.NTable, 1, nothing, nothing, one, called)},
		{false, operates(impl.NTable, 1, nothing, rest)},
		{false, operates(impl.NTable, 1, one, nothing)},
		{false, operates(impl.NTable, 1, one, called, one)},
		{false, operates(impl.NTable, 1, one, called, nothing, one)},
		{false, operates(impl.NTable, 2, one, rest)},
		{false, operates(impl.NTable, -1)},
		{true, has(impl.NOne, called)},
		{true, has(impl.NOne, rest)},
		{false, has(impl.NOne, one)},
		{false, has(impl.NOne)},
		{false, has(impl.NOne, rest, rest)},
	} {
		u := unitOf(textOf(0, append(slices.Clone(ahead), c.node)...))
		got := impl.CheckUnit(u)
		if formFault := fault(3, 0, len(ahead)); c.fits != (got.Code == 4) || c.fits == (got == formFault) {
			t.Errorf("%+v: CheckUnit gives %v, but it fits: %v", c.node, got, c.fits)
		}
	}
}

func TestP4Trees(t *testing.T) {
	ret := begins(impl.NReturn, 1)
	wantFault(t, "a node that is no kid", unitOf(textOf(0, ret, ret, body(1))), fault(4, 0, 0))
	wantFault(t, "a kid of one node twice", unitOf(textOf(0, ret, ret, body(0, 1, 1))), fault(4, 0, 1))
	wantFault(t, "a kid of two nodes", unitOf(textOf(0, ret, body(0), body(0, 1))), fault(4, 0, 0))
	wantFault(t, "a block behind the body", unitOf(textOf(0, ret, body(0), body())), fault(4, 0, 1))
	wantFault(t, "an expression as the body", unitOf(textOf(0, has(impl.NNil))), fault(4, 0, 0))
	wantFault(t, "a return as the body", unitOf(textOf(0, has(impl.NNil), begins(impl.NReturn, 1, 0))), fault(4, 0, 1))
	wantFault(t, "in the second fn", unitOf(textOf(0, body()), textOf(0, ret)), fault(4, 1, 0))
}
