package tests

import (
	"reflect"
	"slices"
	"strings"
	"testing"

	"loop.example/meaning/impl"
)

// begins is a statement; has and the others are expressions.
func begins(kind, line int, kids ...int) impl.Node {
	return impl.Node{Kind: kind, Line: line, Kids: kids}
}

func declares(kind, line int, vars []int, kids ...int) impl.Node {
	return impl.Node{Kind: kind, Line: line, Refs: vars, Kids: kids}
}

func sets(line int, targets int64, kids ...int) impl.Node {
	return impl.Node{Kind: impl.NSet, Line: line, Num: targets, Kids: kids}
}

func has(kind int, kids ...int) impl.Node          { return impl.Node{Kind: kind, Kids: kids} }
func names(kind int, refs ...int) impl.Node        { return impl.Node{Kind: kind, Refs: refs} }
func counts(kind int, n int64) impl.Node           { return impl.Node{Kind: kind, Num: n} }
func operates(kind, op int, kids ...int) impl.Node { return impl.Node{Kind: kind, Op: op, Kids: kids} }

func body(kids ...int) impl.Node { return begins(impl.NBlock, 1, kids...) }

// textOf has the variables v, v, .. : their names are not held against each
// other.
func textOf(vars int, nodes ...impl.Node) impl.Fn {
	return impl.Fn{Vars: slices.Repeat([]string{"v"}, vars), Nodes: nodes}
}

func unitOf(fns ...impl.Fn) impl.Unit { return impl.Unit{Fns: fns} }

func fault(code, fn, node int) impl.Fault { return impl.Fault{Code: code, Fn: fn, Node: node} }

func copyUnit(u impl.Unit) impl.Unit {
	c := impl.Unit{Fns: slices.Clone(u.Fns)}
	for i := range c.Fns {
		fn := &c.Fns[i]
		fn.Vars, fn.Ups, fn.Nodes = slices.Clone(fn.Vars), slices.Clone(fn.Ups), slices.Clone(fn.Nodes)
		for j := range fn.Nodes {
			n := &fn.Nodes[j]
			n.Refs, n.Kids = slices.Clone(n.Refs), slices.Clone(n.Kids)
		}
	}
	return c
}

// wantFault asks, beside the fault, that Lines says nothing of what has one,
// and that neither writes into the unit.
func wantFault(t *testing.T, what string, u impl.Unit, want impl.Fault) {
	t.Helper()
	before := copyUnit(u)
	if got := impl.CheckUnit(u); got != want {
		t.Errorf("%s: CheckUnit gives %v, want %v", what, got, want)
	}
	lines := impl.Lines(u)
	if want != (impl.Fault{}) && len(lines) != 0 {
		t.Errorf("%s: Lines gives %v for a unit with the fault %v", what, lines, want)
	}
	if want == (impl.Fault{}) && !slices.Equal(lines, modelLines(u)) {
		t.Errorf("%s: Lines gives %v, want %v", what, lines, modelLines(u))
	}
	if !hasNaN(before) && !reflect.DeepEqual(before, u) {
		t.Errorf("%s: the unit was written into", what)
	}
}

func wantValid(t *testing.T, what string, u impl.Unit) {
	t.Helper()
	wantFault(t, what, u, impl.Fault{})
}

// hasNaN: such a unit is not even the same as itself.
func hasNaN(u impl.Unit) bool {
	for _, fn := range u.Fns {
		for _, n := range fn.Nodes {
			if n.Flt != n.Flt {
				return true
			}
		}
	}
	return false
}

func wide(n int) string { return strings.Repeat("n", n) }

// sampler is a valid unit in which every kind of node stands, in each of its
// forms.
func sampler() impl.Unit {
	main := impl.Fn{Name: "main", Rest: true, Vars: []string{"a", "b", "i", "k", "v", "w", "x", "e", "t", "c"}, Nodes: []impl.Node{
		0:  counts(impl.NInt, -7),
		1:  {Kind: impl.NFlt, Flt: 2.5},
		2:  declares(impl.NLet, 2, []int{0, 1}, 0, 1),
		3:  {Kind: impl.NStr, Str: "text"},
		4:  names(impl.NVar, 0),
		5:  has(impl.NIndex, 4, 3),
		6:  names(impl.NVar, 1),
		7:  has(impl.NNil),
		8:  has(impl.NRest),
		9:  sets(3, 2, 5, 6, 7, 8),
		10: counts(impl.NBuiltin, impl.BPrint),
		11: has(impl.NTrue),
		12: has(impl.NFalse),
		13: has(impl.NAnd, 11, 12),
		14: has(impl.NCall, 10, 13),
		15: begins(impl.NDo, 4, 14),
		16: counts(impl.NInt, 1),
		17: operates(impl.NUnary, impl.OpNot, 16),
		18: begins(impl.NBreak, 5),
		19: begins(impl.NBlock, 5, 18),
		20: names(impl.NVar, 0),
		21: begins(impl.NNext, 6),
		22: begins(impl.NBlock, 6, 21),
		23: begins(impl.NBlock, 7),
		24: begins(impl.NIf, 6, 20, 22, 23),
		25: begins(impl.NIf, 5, 17, 19, 24),
		26: begins(impl.NBlock, 8, 25),
		27: names(impl.NVar, 1),
		28: begins(impl.NWhile, 8, 27, 26),
		29: counts(impl.NInt, 1),
		30: counts(impl.NInt, 9),
		31: operates(impl.NBinary, impl.OpAdd, 29, 30),
		32: names(impl.NVar, 0),
		33: counts(impl.NInt, 2),
		34: names(impl.NVar, 2),
		35: begins(impl.NThrow, 10, 34),
		36: begins(impl.NBlock, 9, 35),
		37: declares(impl.NFor, 9, []int{2}, 31, 32, 33, 36),
		38: {Kind: impl.NStr, Str: ""},
		39: counts(impl.NInt, 0),
		40: counts(impl.NInt, 1),
		41: has(impl.NRest),
		42: operates(impl.NTable, 1, 38, 39, 40, 41),
		43: names(impl.NVar, 3),
		44: names(impl.NVar, 6),
		45: has(impl.NOr, 43, 44),
		46: counts(impl.NBuiltin, impl.BCells),
		47: has(impl.NCall, 46, 45),
		48: begins(impl.NDefer, 12, 47),
		49: begins(impl.NBlock, 12, 48),
		50: declares(impl.NEach, 11, []int{3, 4, 5, 6}, 42, 49),
		51: operates(impl.NTable, 0),
		52: declares(impl.NLet, 13, []int{9}, 51),
		53: names(impl.NFn, 1),
		54: begins(impl.NReturn, 14, 53),
		55: begins(impl.NBlock, 13, 52, 54),
		56: names(impl.NVar, 7),
		57: names(impl.NVar, 8),
		58: begins(impl.NReturn, 15, 56, 57),
		59: begins(impl.NBlock, 15, 58),
		60: declares(impl.NTry, 13, []int{7, 8}, 55, 59),
		61: begins(impl.NReturn, 100000),
		62: begins(impl.NBlock, 1, 2, 9, 15, 28, 37, 50, 60, 61),
	}}
	inner := impl.Fn{Line: 14, Params: 1, Rest: true, Vars: []string{"p", "q"}, Ups: []impl.Up{{Local: true, Index: 9}, {Local: true, Index: 0}}, Nodes: []impl.Node{
		0:  names(impl.NUp, 0),
		1:  has(impl.NRest),
		2:  has(impl.NOne, 1),
		3:  sets(16, 1, 0, 2),
		4:  declares(impl.NLet, 17, []int{1}),
		5:  names(impl.NFn, 2),
		6:  names(impl.NVar, 0),
		7:  has(impl.NCall, 5, 6),
		8:  has(impl.NOne, 7),
		9:  begins(impl.NReturn, 18, 8),
		10: begins(impl.NBlock, 14, 3, 4, 9),
	}}
	innermost := impl.Fn{Name: "deep", Line: 18, Ups: []impl.Up{{Index: 1}, {Local: true, Index: 0}, {Local: true, Index: 1}}, Nodes: []impl.Node{
		0: names(impl.NUp, 1),
		1: counts(impl.NInt, 3),
		2: names(impl.NUp, 2),
		3: has(impl.NCall, 2),
		4: operates(impl.NTable, 1, 1, 3),
		5: begins(impl.NReturn, 18, 0, 4),
		6: begins(impl.NBlock, 18, 5),
	}}
	return unitOf(main, inner, innermost)
}
