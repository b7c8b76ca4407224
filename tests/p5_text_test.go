package tests

import (
	"fmt"
	"regexp"
	"slices"
	"strconv"
	"strings"
	"testing"

	"loop.example/meaning/impl"
)

// The tests of runs are written as texts, which this reader makes units of; a
// statement's Line is the line of the text on which it stands. The forms:
//
//	let a, b = x, y    a, t[k], t.k = x, y    f(x)    {..}    if x {..} else if y {..} else {..}
//	while x {..}    for i = from, to, step {..}    each k, v in x {..}    break    next
//	return x, y    try {..} catch e, trace {..}    throw x    defer f(x)
//	nil true false 12 1.5 "text" ... fn name(a, b, ...) {..} {name: x, [y]: z, 1: *f(x)}
//	(f(x)) for a NOne, the builtins by their names, and the operators.
//
// A name is bound to what was declared last under it.
type reader struct {
	tokens []token
	at     int
	fns    []*bound
	// here is the fn that is being read.
	here *bound
}

type token struct {
	text string
	line int
}

// bound is a fn of which some is read.
type bound struct {
	impl.Fn
	number int
	outer  *bound
	scope  []int
	ups    []string
}

var nameForm = regexp.MustCompile(`^[a-zA-Z_]\w*$`)

var tokenForm = regexp.MustCompile(`^(?:\n|[ \t]+|--[^\n]*|[0-9]+\.[0-9]+|[0-9]+|[a-zA-Z_]\w*|"(?:[^"\\]|\\.)*"|\.\.\.|\.\.|//|<<|>>|==|!=|<=|>=|[-+*/%&|^~#<>=(){}\[\],:.])`)

func builtinNames() []string {
	return []string{"print", "read", "type", "text", "setkind", "kind", "rawget", "rawset", "task", "resume", "yield", "status", "giveup", "collect", "cells"}
}

// unitFrom takes a name for the text itself: main.
func unitFrom(text string) impl.Unit {
	r := &reader{tokens: tokensOf(text)}
	r.open("main", 0)
	r.here.Rest = true
	r.here.Nodes = append(r.here.Nodes, begins(impl.NBlock, 1, r.statements("")...))
	var u impl.Unit
	for _, fn := range r.fns {
		u.Fns = append(u.Fns, fn.Fn)
	}
	if f := impl.CheckUnit(u); f != (impl.Fault{}) {
		panic(fmt.Sprintf("the text makes a unit with the fault %v:\n%s", f, text))
	}
	return u
}

func tokensOf(text string) []token {
	var tokens []token
	line, at := 1, 0
	for at < len(text) {
		span := tokenForm.FindStringIndex(text[at:])
		if span == nil {
			panic(fmt.Sprintf("line %d: what is %q?", line, text[at:]))
		}
		word := text[at : at+span[1]]
		at += span[1]
		switch {
		case word == "\n":
			line++
		case strings.TrimSpace(word) == "" || strings.HasPrefix(word, "--"):
		default:
			tokens = append(tokens, token{word, line})
		}
	}
	return append(tokens, token{"", line})
}

func (r *reader) peek() string { return r.tokens[r.at].text }

func (r *reader) line() int { return r.tokens[r.at].line }

func (r *reader) take() string {
	r.at++
	return r.tokens[r.at-1].text
}

func (r *reader) want(word string) {
	if got := r.take(); got != word {
		panic(fmt.Sprintf("line %d: %q where %q is to stand", r.tokens[r.at-1].line, got, word))
	}
}

func (r *reader) has(word string) bool {
	if r.peek() != word {
		return false
	}
	r.at++
	return true
}

func (r *reader) node(n impl.Node) int {
	r.here.Nodes = append(r.here.Nodes, n)
	return len(r.here.Nodes) - 1
}

func (r *reader) open(name string, line int) {
	r.here = &bound{Fn: impl.Fn{Name: name, Line: line}, number: len(r.fns), outer: r.here}
	r.fns = append(r.fns, r.here)
}

func (r *reader) name() string {
	word := r.take()
	if !nameForm.MatchString(word) {
		panic(fmt.Sprintf("line %d: %q is no name", r.tokens[r.at-1].line, word))
	}
	return word
}

func (r *reader) names() []string {
	names := []string{r.name()}
	for r.has(",") {
		names = append(names, r.name())
	}
	return names
}

func (b *bound) declare(names ...string) []int {
	var vars []int
	for _, name := range names {
		vars = append(vars, len(b.Vars))
		b.Vars = append(b.Vars, name)
	}
	b.scope = append(b.scope, vars...)
	return vars
}

// local is the variable in scope with this name, or -1.
func (b *bound) local(name string) int {
	for _, v := range slices.Backward(b.scope) {
		if b.Vars[v] == name {
			return v
		}
	}
	return -1
}

// up is the place of a name among what the fn closes over, or -1.
func (b *bound) up(name string) int {
	if i := slices.Index(b.ups, name); i >= 0 {
		return i
	}
	if b.outer == nil {
		return -1
	}
	up := impl.Up{Local: true, Index: b.outer.local(name)}
	if up.Index < 0 {
		up = impl.Up{Index: b.outer.up(name)}
	}
	if up.Index < 0 {
		return -1
	}
	b.Ups, b.ups = append(b.Ups, up), append(b.ups, name)
	return len(b.Ups) - 1
}

func (r *reader) statements(end string) []int {
	height := len(r.here.scope)
	var kids []int
	for r.peek() != end {
		kids = append(kids, r.statement())
	}
	r.here.scope = r.here.scope[:height]
	return kids
}

func (r *reader) block(names ...string) int {
	line, height := r.line(), len(r.here.scope)
	r.want("{")
	r.here.declare(names...)
	kids := r.statements("}")
	r.want("}")
	r.here.scope = r.here.scope[:height]
	return r.node(begins(impl.NBlock, line, kids...))
}

// declaring is a block with variables of its own, and their numbers.
func (r *reader) declaring(names ...string) (vars []int, block int) {
	first := len(r.here.Vars)
	block = r.block(names...)
	for i := range names {
		vars = append(vars, first+i)
	}
	return vars, block
}

func (r *reader) statement() int {
	line := r.line()
	switch word := r.peek(); word {
	case "{":
		return r.block()
	case "let", "if", "while", "for", "each", "try":
		r.at++
		return map[string]func(int) int{"let": r.let, "if": r.choice, "while": r.while, "for": r.count, "each": r.each, "try": r.try}[word](line)
	case "break":
		r.at++
		return r.node(begins(impl.NBreak, line))
	case "next":
		r.at++
		return r.node(begins(impl.NNext, line))
	case "return":
		r.at++
		return r.node(begins(impl.NReturn, line, r.results()...))
	case "throw":
		r.at++
		return r.node(begins(impl.NThrow, line, r.expression()))
	case "defer":
		r.at++
		return r.node(begins(impl.NDefer, line, r.expression()))
	}
	return r.setOrDo(line)
}

// results are none where what follows can't begin an expression.
func (r *reader) results() []int {
	if slices.Contains([]string{"", "}", "let", "if", "while", "for", "each", "try", "break", "next", "return", "throw", "defer"}, r.peek()) {
		return nil
	}
	return r.row()
}

func (r *reader) row() []int {
	kids := []int{r.expression()}
	for r.has(",") {
		kids = append(kids, r.expression())
	}
	return kids
}

func (r *reader) let(line int) int {
	names := r.names()
	var kids []int
	if r.has("=") {
		kids = r.row()
	}
	return r.node(declares(impl.NLet, line, r.here.declare(names...), kids...))
}

func (r *reader) setOrDo(line int) int {
	kids := r.row()
	if !r.has("=") {
		return r.node(begins(impl.NDo, line, kids...))
	}
	return r.node(sets(line, int64(len(kids)), append(kids, r.row()...)...))
}

func (r *reader) choice(line int) int {
	kids := []int{r.expression(), r.block()}
	if r.has("else") {
		elsewhere := r.line()
		if r.has("if") {
			kids = append(kids, r.choice(elsewhere))
		} else {
			kids = append(kids, r.block())
		}
	}
	return r.node(begins(impl.NIf, line, kids...))
}

func (r *reader) while(line int) int {
	asked := r.expression()
	return r.node(begins(impl.NWhile, line, asked, r.block()))
}

func (r *reader) count(line int) int {
	name := r.name()
	r.want("=")
	kids := r.row()
	vars, block := r.declaring(name)
	return r.node(declares(impl.NFor, line, vars, append(kids, block)...))
}

func (r *reader) each(line int) int {
	names := r.names()
	r.want("in")
	source := r.expression()
	vars, block := r.declaring(names...)
	return r.node(declares(impl.NEach, line, vars, source, block))
}

func (r *reader) try(line int) int {
	first := r.block()
	r.want("catch")
	vars, second := r.declaring(r.names()...)
	return r.node(declares(impl.NTry, line, vars, first, second))
}

// levels are the operators, those that bind least first.
var levels = []map[string]int{
	{"or": -impl.NOr},
	{"and": -impl.NAnd},
	{"==": impl.OpEq, "!=": impl.OpNe, "<": impl.OpLt, "<=": impl.OpLe, ">": impl.OpGt, ">=": impl.OpGe},
	{"&": impl.OpAnd, "|": impl.OpOr, "^": impl.OpXor},
	{"<<": impl.OpShl, ">>": impl.OpShr},
	{"..": impl.OpJoin},
	{"+": impl.OpAdd, "-": impl.OpSub},
	{"*": impl.OpMul, "/": impl.OpDiv, "//": impl.OpIDiv, "%": impl.OpMod},
}

func (r *reader) expression() int { return r.level(0) }

func (r *reader) level(i int) int {
	if i == len(levels) {
		return r.unary()
	}
	left := r.level(i + 1)
	for {
		op, ok := levels[i][r.peek()]
		if !ok {
			return left
		}
		r.at++
		right := r.level(i + 1)
		if op < 0 {
			left = r.node(has(-op, left, right))
		} else {
			left = r.node(operates(impl.NBinary, op, left, right))
		}
	}
}

func (r *reader) unary() int {
	op, ok := map[string]int{"-": impl.OpNeg, "~": impl.OpFlip, "not": impl.OpNot, "#": impl.OpLen}[r.peek()]
	if !ok {
		return r.postfix(r.primary())
	}
	r.at++
	return r.node(operates(impl.NUnary, op, r.unary()))
}

// postfix leaves what begins a line to the next statement.
func (r *reader) postfix(on int) int {
	for {
		switch {
		case r.line() != r.tokens[r.at-1].line:
			return on
		case r.has("("):
			on = r.node(has(impl.NCall, append([]int{on}, r.until(")")...)...))
		case r.has("["):
			key := r.expression()
			r.want("]")
			on = r.node(has(impl.NIndex, on, key))
		case r.has("."):
			key := r.node(impl.Node{Kind: impl.NStr, Str: r.name()})
			on = r.node(has(impl.NIndex, on, key))
		default:
			return on
		}
	}
}

// until is a row of expressions that may be empty, and what ends it.
func (r *reader) until(end string) []int {
	var kids []int
	if r.peek() != end {
		kids = r.row()
	}
	r.want(end)
	return kids
}

func (r *reader) primary() int {
	word := r.take()
	switch {
	case word == "nil" || word == "true" || word == "false" || word == "...":
		return r.node(has(map[string]int{"nil": impl.NNil, "true": impl.NTrue, "false": impl.NFalse, "...": impl.NRest}[word]))
	case word == "fn":
		return r.fn(r.tokens[r.at-1].line)
	case word == "{":
		return r.table()
	case word == "(":
		return r.inParentheses()
	case word[0] == '"':
		s, err := strconv.Unquote(word)
		if err != nil {
			panic(err)
		}
		return r.node(impl.Node{Kind: impl.NStr, Str: s})
	case word[0] >= '0' && word[0] <= '9':
		return r.number(word)
	}
	return r.named(word)
}

func (r *reader) number(word string) int {
	if n, err := strconv.ParseUint(word, 10, 64); err == nil {
		return r.node(counts(impl.NInt, int64(n)))
	}
	x, err := strconv.ParseFloat(word, 64)
	if err != nil {
		panic(err)
	}
	return r.node(impl.Node{Kind: impl.NFlt, Flt: x})
}

func (r *reader) named(word string) int {
	if v := r.here.local(word); v >= 0 {
		return r.node(names(impl.NVar, v))
	}
	if up := r.here.up(word); up >= 0 {
		return r.node(names(impl.NUp, up))
	}
	if b := slices.Index(builtinNames(), word); b >= 0 {
		return r.node(counts(impl.NBuiltin, int64(b)))
	}
	panic(fmt.Sprintf("line %d: nothing is named %q", r.tokens[r.at-1].line, word))
}

func (r *reader) inParentheses() int {
	inner := r.expression()
	r.want(")")
	if kind := r.here.Nodes[inner].Kind; kind == impl.NCall || kind == impl.NRest {
		return r.node(has(impl.NOne, inner))
	}
	return inner
}

func (r *reader) table() int {
	node := impl.Node{Kind: impl.NTable}
	for !r.has("}") {
		if r.has("[") {
			node.Kids = append(node.Kids, r.expression())
			r.want("]")
		} else if nameForm.MatchString(r.peek()) {
			node.Kids = append(node.Kids, r.node(impl.Node{Kind: impl.NStr, Str: r.name()}))
		} else {
			node.Kids = append(node.Kids, r.primary())
		}
		r.want(":")
		if r.has("*") {
			node.Op = 1
		}
		node.Kids = append(node.Kids, r.expression())
		if r.peek() != "}" {
			r.want(",")
		}
	}
	return r.node(node)
}

func (r *reader) fn(line int) int {
	name := ""
	if r.peek() != "(" {
		name = r.name()
	}
	outer := r.here
	r.open(name, line)
	r.want("(")
	for !r.has(")") {
		if r.has("...") {
			r.here.Rest = true
		} else {
			r.here.declare(r.name())
			r.here.Params++
		}
		if r.peek() != ")" {
			r.want(",")
		}
	}
	r.block()
	made := r.here.number
	r.here = outer
	return r.node(names(impl.NFn, made))
}

// The reader itself: what it makes of each form, in the order of the nodes.
func TestP5TextsAreRead(t *testing.T) {
	u := unitFrom("let a, b = 1\na[2], b = ...\nlet f = fn g(x, ...) {\n  return -a .. x\n}")
	want := unitOf(impl.Fn{Name: "main", Rest: true, Vars: []string{"a", "b", "f"}, Nodes: []impl.Node{
		counts(impl.NInt, 1), declares(impl.NLet, 1, []int{0, 1}, 0),
		names(impl.NVar, 0), counts(impl.NInt, 2), has(impl.NIndex, 2, 3), names(impl.NVar, 1), has(impl.NRest), sets(2, 2, 4, 5, 6),
		names(impl.NFn, 1), declares(impl.NLet, 3, []int{2}, 8), begins(impl.NBlock, 1, 1, 7, 9),
	}}, impl.Fn{Name: "g", Line: 3, Params: 1, Rest: true, Vars: []string{"x"}, Ups: []impl.Up{{Local: true}}, Nodes: []impl.Node{
		names(impl.NUp, 0), operates(impl.NUnary, impl.OpNeg, 0), names(impl.NVar, 0), operates(impl.NBinary, impl.OpJoin, 1, 2),
		begins(impl.NReturn, 4, 3), begins(impl.NBlock, 3, 4),
	}})
	if got := fmt.Sprint(u); got != fmt.Sprint(want) {
		t.Errorf("got  %v\nwant %v", got, fmt.Sprint(want))
	}
}
