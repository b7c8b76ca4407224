package tests

import (
	"testing"

	"loop.example/meaning/impl"
)

func TestP4ScopeOfLet(t *testing.T) {
	use := names(impl.NVar, 0)
	ret := begins(impl.NReturn, 2, 0)
	wantValid(t, "behind the let", unitOf(textOf(1, use, ret, declares(impl.NLet, 1, []int{0}), body(2, 1))))
	wantFault(t, "ahead of the let", unitOf(textOf(1, use, ret, declares(impl.NLet, 1, []int{0}), body(1, 2))), fault(6, 0, 0))
	wantFault(t, "in the let itself", unitOf(textOf(1, use, declares(impl.NLet, 1, []int{0}, 0), body(1))), fault(6, 0, 0))
	wantFault(t, "without a let", unitOf(textOf(1, use, ret, body(1))), fault(6, 0, 0))
	wantFault(t, "no such variable", unitOf(textOf(0, use, ret, body(1))), fault(6, 0, 0))
	wantValid(t, "in a block behind the let", unitOf(textOf(1, use, ret, body(1), declares(impl.NLet, 1, []int{0}), body(3, 2))))
	wantFault(t, "behind the let's block", unitOf(textOf(1, use, ret, declares(impl.NLet, 1, []int{0}), body(2), body(3, 1))), fault(6, 0, 0))
	wantFault(t, "in the other branch", unitOf(textOf(1,
		use, ret, declares(impl.NLet, 1, []int{0}), has(impl.NNil), body(2), body(1), begins(impl.NIf, 1, 3, 4, 5), body(6))), fault(6, 0, 0))
	wantValid(t, "as a target", unitOf(textOf(1, declares(impl.NLet, 1, []int{0}), use, has(impl.NNil), sets(2, 1, 1, 2), body(0, 3))))
	wantFault(t, "as a target ahead of the let", unitOf(textOf(1, declares(impl.NLet, 1, []int{0}), use, has(impl.NNil), sets(2, 1, 1, 2), body(3, 0))), fault(6, 0, 1))
}

// forLoop is a NFor over the variable 0 with three expressions (nodes 0 to 2),
// one in its NBlock (3) and one behind it (7).
func forLoop(from, to, step, inside, behind impl.Node) impl.Unit {
	return unitOf(textOf(1,
		from, to, step, inside, begins(impl.NReturn, 2, 3), body(4), declares(impl.NFor, 1, []int{0}, 0, 1, 2, 5),
		behind, begins(impl.NReturn, 3, 7), body(6, 8)))
}

// eachLoop is a NEach over the variables 3 to 0 with an expression (0), one in
// its NBlock (1) and one behind it (5).
func eachLoop(over, inside, behind impl.Node) impl.Unit {
	return unitOf(textOf(4,
		over, inside, begins(impl.NReturn, 2, 1), body(2), declares(impl.NEach, 1, []int{3, 2, 1, 0}, 0, 3),
		behind, begins(impl.NReturn, 3, 5), body(4, 6)))
}

// catches is a NTry of the variables 1 and 0 with an expression in its first
// NBlock (0), one in its second (3) and one behind it (7).
func catches(first, second, behind impl.Node) impl.Unit {
	return unitOf(textOf(2,
		first, begins(impl.NReturn, 2, 0), body(1), second, begins(impl.NReturn, 3, 3), body(4), declares(impl.NTry, 1, []int{1, 0}, 2, 5),
		behind, begins(impl.NReturn, 4, 7), body(6, 8)))
}

func TestP4ScopeOfLoops(t *testing.T) {
	none := has(impl.NNil)
	i := names(impl.NVar, 0)
	wantValid(t, "NFor: in its block", forLoop(none, none, none, i, none))
	wantFault(t, "NFor: from", forLoop(i, none, none, none, none), fault(6, 0, 0))
	wantFault(t, "NFor: to", forLoop(none, i, none, none, none), fault(6, 0, 1))
	wantFault(t, "NFor: step", forLoop(none, none, i, none, none), fault(6, 0, 2))
	wantFault(t, "NFor: behind it", forLoop(none, none, none, none, i), fault(6, 0, 7))
	for v := range 4 {
		use := names(impl.NVar, v)
		wantValid(t, "NEach: in its block", eachLoop(none, use, none))
		wantFault(t, "NEach: over", eachLoop(use, none, none), fault(6, 0, 0))
		wantFault(t, "NEach: behind it", eachLoop(none, none, use), fault(6, 0, 5))
	}
	wantFault(t, "NEach: no such variable", eachLoop(none, names(impl.NVar, 4), none), fault(6, 0, 1))
}

func TestP4ScopeOfCatches(t *testing.T) {
	none := has(impl.NNil)
	for v := range 2 {
		use := names(impl.NVar, v)
		wantValid(t, "in the second block", catches(none, use, none))
		wantFault(t, "in the first block", catches(use, none, none), fault(6, 0, 0))
		wantFault(t, "behind it", catches(none, none, use), fault(6, 0, 7))
	}
	// What is declared in the first block is not in scope in the second.
	wantFault(t, "a let of the first block", unitOf(textOf(3,
		declares(impl.NLet, 1, []int{2}), body(0), names(impl.NVar, 2), begins(impl.NReturn, 1, 2), body(3),
		declares(impl.NTry, 1, []int{0, 1}, 1, 4), body(5))), fault(6, 0, 2))
}

// Parameters are in scope everywhere in their fn, and in no other.
func TestP4ScopeOfParameters(t *testing.T) {
	u := maker(2)
	u.Fns[1] = textOf(2, names(impl.NVar, 1), begins(impl.NReturn, 1, 0), body(1), names(impl.NVar, 0), begins(impl.NReturn, 1, 3), body(4, 2))
	u.Fns[1].Params = 2
	wantValid(t, "both parameters", u)
	u.Fns[1].Params = 1
	wantFault(t, "the second is no parameter", u, fault(6, 1, 0))
	u.Fns[1].Params = 2
	u.Fns[2] = textOf(2, names(impl.NVar, 1), begins(impl.NReturn, 1, 0), body(1))
	wantFault(t, "those of another fn", u, fault(6, 2, 0))
}

func TestP4DeclaredASecondTime(t *testing.T) {
	let := func(vars ...int) impl.Node { return declares(impl.NLet, 1, vars) }
	wantFault(t, "in one let", unitOf(textOf(2, let(0, 1, 0), body(0))), fault(6, 0, 0))
	wantFault(t, "in one block", unitOf(textOf(2, let(0), let(1), let(0), body(0, 1, 2))), fault(6, 0, 2))
	wantFault(t, "second by the numbers, not by the place", unitOf(textOf(2, let(0), let(1), let(0), body(2, 1, 0))), fault(6, 0, 2))
	wantFault(t, "in two blocks apart", unitOf(textOf(1, let(0), body(0), let(0), body(2), body(1, 3))), fault(6, 0, 2))
	none := has(impl.NNil)
	twice := eachLoop(none, none, none)
	twice.Fns[0].Nodes[4].Refs = []int{3, 2, 3}
	wantFault(t, "in one NEach", twice, fault(6, 0, 4))
	same := catches(none, none, none)
	same.Fns[0].Nodes[6].Refs = []int{1, 1}
	wantFault(t, "in one NTry", same, fault(6, 0, 6))
	param := maker(1)
	param.Fns[1] = textOf(2, let(1), let(0), body(0, 1))
	param.Fns[1].Params = 1
	wantFault(t, "a parameter", param, fault(6, 1, 1))
	apart := maker(1)
	apart.Fns[0].Vars = []string{"a"}
	apart.Fns[0].Nodes = []impl.Node{names(impl.NFn, 1), begins(impl.NReturn, 1, 0), let(0), body(2, 1)}
	apart.Fns[1] = textOf(1, let(0), body(0))
	wantValid(t, "once in each of two fns", apart)
}

// A variable that is declared twice is in scope by either of both, so the
// fault is where it is declared again, not where it is used.
func TestP4ScopeOfADoubleDeclaration(t *testing.T) {
	let := declares(impl.NLet, 1, []int{0})
	use, ret := names(impl.NVar, 0), begins(impl.NReturn, 1, 0)
	wantFault(t, "by the second", unitOf(textOf(1, use, ret, let, body(2), let, body(3, 4, 1))), fault(6, 0, 4))
	wantFault(t, "by the first, behind the second's block", unitOf(textOf(1, use, ret, let, let, body(3), body(2, 4, 1))), fault(6, 0, 3))
	wantFault(t, "by none", unitOf(textOf(1, use, ret, let, body(2), let, body(4), body(3, 5, 1))), fault(6, 0, 0))
	outside := declares(impl.NLet, 1, []int{0, 7})
	wantFault(t, "beside one that there is not", unitOf(textOf(1, use, ret, outside, body(2, 1))), fault(6, 0, 2))
}

func TestP4Jumps(t *testing.T) {
	for _, kind := range []int{impl.NBreak, impl.NNext} {
		jump, none := begins(kind, 1), has(impl.NNil)
		wantFault(t, "in the text", unitOf(textOf(0, jump, body(0))), fault(7, 0, 0))
		wantFault(t, "in a block of the text", unitOf(textOf(0, jump, body(0), body(1))), fault(7, 0, 0))
		wantFault(t, "in an if", unitOf(textOf(0, jump, body(0), none, begins(impl.NIf, 1, 2, 1), body(3))), fault(7, 0, 0))
		wantFault(t, "in a try", unitOf(textOf(2, body(), jump, body(1), declares(impl.NTry, 1, []int{0, 1}, 0, 2), body(3))), fault(7, 0, 1))
		wantValid(t, "in a while", unitOf(textOf(0, jump, body(0), none, begins(impl.NWhile, 1, 2, 1), body(3))))
		wantFault(t, "behind a while", unitOf(textOf(0, jump, body(), none, begins(impl.NWhile, 1, 2, 1), body(3, 0))), fault(7, 0, 0))
		wantValid(t, "in a for", unitOf(textOf(1, jump, body(0), none, none, none, declares(impl.NFor, 1, []int{0}, 2, 3, 4, 1), body(5))))
		wantValid(t, "in an each", unitOf(textOf(1, jump, body(0), none, declares(impl.NEach, 1, []int{0}, 2, 1), body(3))))
		wantValid(t, "in a try in a block in a while", unitOf(textOf(2,
			jump, body(0), body(), declares(impl.NTry, 1, []int{0, 1}, 2, 1), body(3), body(4), none, begins(impl.NWhile, 1, 6, 5), body(7))))
		wantFault(t, "behind an inner loop, with none around it", unitOf(textOf(0,
			body(), none, begins(impl.NWhile, 1, 1, 0), jump, body(2, 3), body(4))), fault(7, 0, 3))
		wantFault(t, "in a fn that is made in a while", unitOf(
			textOf(0, names(impl.NFn, 1), begins(impl.NReturn, 1, 0), body(1), none, begins(impl.NWhile, 1, 3, 2), body(4)),
			textOf(0, jump, body(0))), fault(7, 1, 0))
	}
}

func TestP4Rest(t *testing.T) {
	u := unitOf(textOf(0, has(impl.NRest), begins(impl.NReturn, 1, 0), body(1)))
	wantFault(t, "without a Rest", u, fault(8, 0, 0))
	u.Fns[0].Rest = true
	wantValid(t, "with a Rest", u)
	u.Fns[0].Nodes[0] = names(impl.NFn, 1)
	u.Fns = append(u.Fns, textOf(0, has(impl.NRest), begins(impl.NReturn, 1, 0), body(1)))
	wantFault(t, "with that of another fn", u, fault(8, 1, 0))
}

// returning is a fn that returns fns, each made by a node of its own: node f
// for the f'th, from 0.
func returning(vars int, fns ...int) impl.Fn {
	fn := textOf(vars)
	var kids []int
	for n, f := range fns {
		fn.Nodes = append(fn.Nodes, names(impl.NFn, f))
		kids = append(kids, n)
	}
	fn.Nodes = append(fn.Nodes, begins(impl.NReturn, 1, kids...), body(len(fns)))
	return fn
}

func TestP4WhichFnIsMade(t *testing.T) {
	leaf := textOf(0, body())
	wantValid(t, "each by the one ahead", unitOf(returning(0, 1), returning(0, 2), leaf))
	wantValid(t, "in any order", unitOf(returning(0, 3, 1), returning(0, 2), leaf, leaf))
	wantFault(t, "itself", unitOf(returning(0, 1), returning(0, 1)), fault(8, 1, 0))
	wantFault(t, "the text", unitOf(returning(0, 0)), fault(8, 0, 0))
	wantFault(t, "one ahead", unitOf(returning(0, 1, 2), leaf, returning(0, 1)), fault(8, 2, 0))
	wantFault(t, "no such fn", unitOf(returning(0, 1)), fault(6, 0, 0))
	wantFault(t, "a fn below 0", unitOf(returning(0, -1)), fault(6, 0, 0))
	wantFault(t, "one twice in a fn", unitOf(returning(0, 1, 2, 1), leaf, leaf), fault(8, 0, 2))
	wantFault(t, "one twice in two fns", unitOf(returning(0, 1, 2), returning(0, 2), leaf), fault(8, 1, 0))
	wantFault(t, "one that none makes", unitOf(returning(0, 1, 3), leaf, leaf, leaf, leaf), fault(9, 2, 0))
	wantFault(t, "two that none makes", unitOf(textOf(0, body()), leaf, leaf), fault(9, 1, 0))
	// The second by its number comes first in the text.
	turned := unitOf(textOf(0, names(impl.NFn, 1), begins(impl.NReturn, 1, 0), names(impl.NFn, 1), begins(impl.NReturn, 1, 2), body(3, 1)), leaf)
	wantFault(t, "the second by number", turned, fault(8, 0, 2))
}

// closing is a text that declares the variable 0 by a let, and makes the fn 1
// at the node 1, behind the let or ahead of it; it closes over what is said.
func closing(ahead bool, ups ...impl.Up) impl.Unit {
	order := []int{0, 2}
	if ahead {
		order = []int{2, 0}
	}
	u := unitOf(textOf(2, declares(impl.NLet, 1, []int{0}), names(impl.NFn, 1), begins(impl.NReturn, 2, 1), body(order...)), textOf(0, body()))
	u.Fns[1].Ups = ups
	return u
}

func TestP4WhatIsClosedOver(t *testing.T) {
	local := func(i int) impl.Up { return impl.Up{Local: true, Index: i} }
	wantValid(t, "a variable in scope", closing(false, local(0)))
	wantValid(t, "one variable twice", closing(false, local(0), local(0)))
	wantValid(t, "nothing", closing(true))
	wantFault(t, "a variable that comes later", closing(true, local(0)), fault(8, 0, 1))
	wantFault(t, "a variable that is never declared", closing(false, local(0), local(1)), fault(8, 0, 1))
	wantFault(t, "no such variable", closing(false, local(2)), fault(8, 0, 1))
	wantFault(t, "a variable below 0", closing(false, local(-1)), fault(8, 0, 1))
	wantFault(t, "what the text closes over", closing(false, impl.Up{Index: 0}), fault(8, 0, 1))

	chain := closing(false, local(0), local(0))
	chain.Fns[1].Vars, chain.Fns[1].Params = []string{"p"}, 1
	chain.Fns[1].Nodes = returning(0, 2).Nodes
	chain.Fns = append(chain.Fns, textOf(0, body()))
	for index, fits := range []bool{true, true, false} {
		chain.Fns[2].Ups = []impl.Up{local(0), {Index: index}}
		want := fault(8, 1, 0)
		if fits {
			want = impl.Fault{}
		}
		wantFault(t, "what the fn around it closes over", chain, want)
	}
	chain.Fns[2].Ups = []impl.Up{{Index: -1}}
	wantFault(t, "below 0", chain, fault(8, 1, 0))
	chain.Fns[2].Ups = []impl.Up{local(1)}
	wantFault(t, "a variable that the fn around it has not", chain, fault(8, 1, 0))
}

// What is closed over is asked where the NFn stands: in loops, catches and the
// let's own expressions too.
func TestP4ClosedOverInLoopsAndCatches(t *testing.T) {
	none, makes := has(impl.NNil), names(impl.NFn, 1)
	over := func(u impl.Unit, v int) impl.Unit {
		u.Fns = append(u.Fns, textOf(0, body()))
		u.Fns[1].Ups = []impl.Up{{Local: true, Index: v}}
		return u
	}
	wantValid(t, "NFor: in its block", over(forLoop(none, none, none, makes, none), 0))
	wantFault(t, "NFor: step", over(forLoop(none, none, makes, none, none), 0), fault(8, 0, 2))
	wantFault(t, "NFor: behind it", over(forLoop(none, none, none, none, makes), 0), fault(8, 0, 7))
	wantValid(t, "NEach: in its block", over(eachLoop(none, makes, none), 3))
	wantFault(t, "NEach: over", over(eachLoop(makes, none, none), 3), fault(8, 0, 0))
	wantFault(t, "NEach: behind it", over(eachLoop(none, none, makes), 0), fault(8, 0, 5))
	wantValid(t, "NTry: in its second block", over(catches(none, makes, none), 1))
	wantFault(t, "NTry: in its first block", over(catches(makes, none, none), 1), fault(8, 0, 0))
	wantFault(t, "NTry: behind it", over(catches(none, none, makes), 0), fault(8, 0, 7))
	wantFault(t, "NLet: in itself", over(unitOf(textOf(1, makes, declares(impl.NLet, 1, []int{0}, 0), body(1))), 0), fault(8, 0, 0))
}

func TestP4Ups(t *testing.T) {
	u := closing(false, impl.Up{Local: true})
	u.Fns[1].Nodes = []impl.Node{names(impl.NUp, 0), begins(impl.NReturn, 1, 0), body(1)}
	wantValid(t, "the only place", u)
	u.Fns[1].Nodes[0].Refs[0] = 1
	wantFault(t, "a place behind", u, fault(6, 1, 0))
	u.Fns[1].Nodes[0].Refs[0] = -1
	wantFault(t, "a place below 0", u, fault(6, 1, 0))
	wantFault(t, "in the text, which has none", unitOf(textOf(1, names(impl.NUp, 0), begins(impl.NReturn, 1, 0), body(1))), fault(6, 0, 0))
}
