package tests

import (
	"fmt"
	"math"
	"slices"
	"testing"

	"loop.example/meaning/impl"
)

// deep has its first node as deep as is said: blocks in blocks.
func deep(depth int) impl.Fn {
	nodes := []impl.Node{body()}
	for n := range depth {
		nodes = append(nodes, body(n))
	}
	return textOf(0, nodes...)
}

// many has so many nodes: a body, blocks of at most 200 returns, and their
// returns.
func many(nodes int) impl.Fn {
	fn := textOf(0)
	var blocks []int
	for left := nodes - 1; left > 0; {
		var kids []int
		for len(kids) < min(left-1, 200) {
			kids = append(kids, len(fn.Nodes))
			fn.Nodes = append(fn.Nodes, begins(impl.NReturn, 1))
		}
		blocks = append(blocks, len(fn.Nodes))
		fn.Nodes = append(fn.Nodes, body(kids...))
		left -= len(kids) + 1
	}
	fn.Nodes = append(fn.Nodes, body(blocks...))
	return fn
}

// maker has a NFn for each of the fns that follow, and nothing else; it has at
// most 200 of them in one statement.
func maker(fns int) impl.Unit {
	main := textOf(0)
	var returns []int
	for f := 1; f <= fns; {
		var kids []int
		for ; f <= fns && len(kids) < 200; f++ {
			kids = append(kids, len(main.Nodes))
			main.Nodes = append(main.Nodes, names(impl.NFn, f))
		}
		returns = append(returns, len(main.Nodes))
		main.Nodes = append(main.Nodes, begins(impl.NReturn, 1, kids...))
	}
	main.Nodes = append(main.Nodes, body(returns...))
	u := unitOf(main)
	for range fns {
		u.Fns = append(u.Fns, textOf(0, body()))
	}
	return u
}

func TestP4LimitOfFns(t *testing.T) {
	wantValid(t, "300 fns", maker(299))
	wantFault(t, "301 fns", maker(300), fault(1, 0, 0))
}

func TestP4LimitOfNodes(t *testing.T) {
	for _, nodes := range []int{1, 2, 203, 2999, 3000} {
		fn := many(nodes)
		if len(fn.Nodes) != nodes {
			t.Fatalf("%d nodes were made, not %d", len(fn.Nodes), nodes)
		}
		wantValid(t, fmt.Sprint(nodes, " nodes"), unitOf(fn))
	}
	wantFault(t, "3001 nodes", unitOf(many(3001)), fault(1, 0, 0))
	two := maker(1)
	two.Fns[1] = many(3000 - len(two.Fns[0].Nodes))
	wantValid(t, "3000 nodes in two fns", two)
	two.Fns[1] = many(3001 - len(two.Fns[0].Nodes))
	wantFault(t, "3001 nodes in two fns", two, fault(1, 0, 0))
}

func TestP4LimitOfVariables(t *testing.T) {
	wantValid(t, "200 Vars", unitOf(textOf(200, body())))
	wantFault(t, "201 Vars", unitOf(textOf(201, body())), fault(2, 0, 0))
	vars := make([]int, 200)
	for v := range vars {
		vars[v] = v
	}
	wantValid(t, "200 Vars of one NLet", unitOf(textOf(200, declares(impl.NLet, 1, vars), body(0))))
	wantFault(t, "and one more", unitOf(textOf(200, declares(impl.NLet, 1, append(vars, 0)), body(0))), fault(6, 0, 0))
	u := maker(1)
	u.Fns[1] = textOf(200, body())
	u.Fns[1].Params = 200
	wantValid(t, "200 Params", u)
	u.Fns[1].Vars = u.Fns[1].Vars[1:]
	wantFault(t, "one of them without a variable", u, fault(2, 1, 0))
}

func TestP4LimitOfUps(t *testing.T) {
	closing := func(vars, ups int) impl.Unit {
		u := unitOf(
			textOf(vars, declares(impl.NLet, 1, []int{0}), names(impl.NFn, 1), begins(impl.NReturn, 1, 1), body(0, 2)),
			textOf(vars, body()))
		u.Fns[1].Ups = slices.Repeat([]impl.Up{{Local: true}}, ups)
		return u
	}
	wantValid(t, "200 Ups", closing(1, 200))
	wantValid(t, "200 Ups and 200 Vars", closing(200, 200))
	wantFault(t, "201 Ups", closing(1, 201), fault(2, 1, 0))
}

func TestP4LimitOfNames(t *testing.T) {
	named := func(name, variable string) impl.Unit {
		fn := textOf(0, body())
		fn.Name, fn.Vars = name, []string{"a", variable}
		return unitOf(fn)
	}
	wantValid(t, "names of 0 and 1", named("", "v"))
	wantValid(t, "names of 40", named(wide(40), wide(40)))
	wantValid(t, "names of any bytes, one twice", named("\x00\xff", "a"))
	wantFault(t, "a name of 41", named(wide(41), "v"), fault(2, 0, 0))
	wantFault(t, "a variable's name of 41", named("", wide(41)), fault(2, 0, 0))
	wantFault(t, "a variable's name of 0", named("", ""), fault(2, 0, 0))
	wantFault(t, "41 bytes in fewer runes", named("a"+"éééééééééééééééééééé", "v"), fault(2, 0, 0))
}

func TestP4LimitOfKids(t *testing.T) {
	wantKids := func(what string, leaf impl.Node, holder func(kids []int) impl.Node, most int, fits bool) {
		t.Helper()
		fn := textOf(1, slices.Repeat([]impl.Node{leaf}, most)...)
		kids := make([]int, most)
		for i := range kids {
			kids[i] = i
		}
		fn.Nodes = append(fn.Nodes, holder(kids))
		fn.Nodes[most].Kids = kids
		last := most
		if fn.Nodes[most].Kind >= 20 {
			fn.Nodes = append(fn.Nodes, begins(impl.NReturn, 1, most))
			last++
		}
		fn.Nodes = append(fn.Nodes, body(last))
		want := impl.Fault{}
		if !fits {
			want = fault(3, 0, most)
		}
		wantFault(t, fmt.Sprintf("%d kids of a %s", most, what), unitOf(fn), want)
	}
	empty := has(impl.NNil)
	for most, fits := range map[int]bool{200: true, 201: false, 1000: false} {
		wantKids("NBlock", begins(impl.NReturn, 1), func([]int) impl.Node { return begins(impl.NBlock, 1) }, most, fits)
		wantKids("NReturn", empty, func([]int) impl.Node { return begins(impl.NReturn, 1) }, most, fits)
		wantKids("NLet", empty, func([]int) impl.Node { return declares(impl.NLet, 1, []int{0}) }, most, fits)
		wantKids("NCall", empty, func([]int) impl.Node { return has(impl.NCall) }, most, fits)
	}
	wantKids("NTable", empty, func([]int) impl.Node { return has(impl.NTable) }, 200, true)
	wantKids("NTable", empty, func([]int) impl.Node { return has(impl.NTable) }, 202, false)
}

func TestP4LimitOfDepth(t *testing.T) {
	wantValid(t, "depth 100", unitOf(deep(100)))
	wantFault(t, "depth 101", unitOf(deep(101)), fault(5, 0, 0))
	wantFault(t, "depth 103", unitOf(deep(103)), fault(5, 0, 0))
	u := maker(1)
	u.Fns[1] = deep(100)
	wantValid(t, "depth 100 in the second fn, which begins at 0 again", u)
	u.Fns[1] = deep(2000)
	wantFault(t, "depth 2000 in the second fn", u, fault(5, 1, 0))
	// The chain of blocks is 1 .. 102, the node 0 stands in the body itself.
	beside := []impl.Node{body(), body()}
	for n := 1; n <= 100; n++ {
		beside = append(beside, body(n))
	}
	beside = append(beside, body(0, 101))
	wantFault(t, "the deep node is not the first", unitOf(textOf(0, beside...)), fault(5, 0, 1))
}

// Expressions count for the depth as statements do.
func TestP4LimitOfDepthOfExpressions(t *testing.T) {
	negated := func(times int) impl.Unit {
		nodes := []impl.Node{counts(impl.NInt, 1)}
		for n := range times {
			nodes = append(nodes, operates(impl.NUnary, impl.OpNeg, n))
		}
		nodes = append(nodes, begins(impl.NReturn, 1, times), body(times+1))
		return unitOf(textOf(0, nodes...))
	}
	wantValid(t, "depth 100", negated(98))
	wantFault(t, "depth 101", negated(99), fault(5, 0, 0))
}

func TestP4LimitOfLines(t *testing.T) {
	for line, fits := range map[int]bool{1: true, 100000: true, 0: false, 100001: false, -1: false} {
		want := map[bool]impl.Fault{false: fault(3, 0, 0)}
		wantFault(t, fmt.Sprint("a statement in line ", line), unitOf(textOf(0, begins(impl.NReturn, line), body(0))), want[fits])
		wantFault(t, fmt.Sprint("a block in line ", line), unitOf(textOf(0, begins(impl.NBlock, line))), want[fits])
	}
	for line, fits := range map[int]bool{0: true, 1: true, 100000: true, 100001: false, -1: false} {
		want := map[bool]impl.Fault{false: fault(2, 0, 0)}
		fn := textOf(0, body())
		fn.Line = line
		wantFault(t, fmt.Sprint("a fn in line ", line), unitOf(fn), want[fits])
	}
	for _, line := range []int{1, -1, 100000} {
		e := has(impl.NNil)
		e.Line = line
		wantFault(t, fmt.Sprint("an expression in line ", line), unitOf(textOf(0, e, begins(impl.NReturn, 1, 0), body(1))), fault(3, 0, 0))
	}
}

func TestP4LimitsOfConstants(t *testing.T) {
	for _, c := range []struct {
		fits bool
		node impl.Node
	}{
		{true, impl.Node{Kind: impl.NStr, Str: long(4000)}},
		{false, impl.Node{Kind: impl.NStr, Str: long(4001)}},
		{true, impl.Node{Kind: impl.NFlt, Flt: math.Inf(-1)}},
		{true, impl.Node{Kind: impl.NFlt, Flt: minusZero}},
		{false, impl.Node{Kind: impl.NFlt, Flt: math.NaN()}},
		{true, impl.Node{Kind: impl.NInt, Num: leastInt}},
		{false, impl.Node{Kind: impl.NInt, Flt: math.NaN()}},
		{false, impl.Node{Kind: 0}},
		{false, impl.Node{Kind: 15, Line: 1}},
		{false, impl.Node{Kind: 19}},
		{false, impl.Node{Kind: 39}},
		{false, impl.Node{Kind: -1}},
	} {
		want := impl.Fault{}
		if !c.fits {
			want = fault(3, 0, 0)
		}
		wantFault(t, fmt.Sprintf("kind %d, Num %d, Flt %v, %d bytes", c.node.Kind, c.node.Num, c.node.Flt, len(c.node.Str)), unitOf(textOf(0, c.node, begins(impl.NReturn, 1, 0), body(1))), want)
	}
}

// So many Refs that a search through them for every variable would not end.
func TestP4EndsWithManyRefs(t *testing.T) {
	u := unitOf(many(2990))
	refs := make([]int, 1<<20)
	u.Fns[0].Vars = []string{"v", "w"}
	for n := range u.Fns[0].Nodes {
		if node := &u.Fns[0].Nodes[n]; node.Kind == impl.NReturn && n > 0 {
			*node = declares(impl.NLet, 1, refs[:1+n%7])
		}
	}
	u.Fns[0].Nodes[0] = declares(impl.NLet, 1, refs)
	if got := impl.CheckUnit(u); got != fault(6, 0, 0) {
		t.Errorf("CheckUnit gives %v", got)
	}
}
