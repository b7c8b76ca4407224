package tests

import (
	"maps"
	"regexp"
	"slices"
	"strconv"

	"loop.example/meaning/impl"
)

// The model says of chapter 3 one sentence after the other, by patterns over
// the kids and by climbing from a node to its parents. It is slow, and looks
// for a fault only where none that comes ahead of it is in the whole unit.

// Of a kid its letter tells what it may stand as.
func letter(kind int) string {
	switch {
	case kind == 1:
		return "B"
	case kind == 5:
		return "I"
	case kind >= 2 && kind <= 14:
		return "S"
	case kind == 26 || kind == 27 || kind == 33:
		return "T"
	case kind == 34:
		return "C"
	case kind == 37:
		return "R"
	case kind == 23:
		return "N"
	case kind >= 20 && kind <= 38:
		return "E"
	}
	return "?"
}

// rule is a row of the document's tables: the names of the fields that are
// used, the least and the most Refs, and what the kids' letters look like.
type rule struct {
	fields      string
	least, most int
	kids        *regexp.Regexp
}

const endless = 1 << 30

func rules() map[int]rule {
	rows := map[int]rule{}
	row := func(kinds []int, fields string, least, most int, kids string) {
		for _, kind := range kinds {
			rows[kind] = rule{fields, least, most, regexp.MustCompile("^(" + kids + ")$")}
		}
	}
	const e = "[TCRNE]"
	row([]int{1}, "", 0, 0, "[BIS]*")
	row([]int{2}, "", 1, endless, e+"*")
	row([]int{3}, "Num", 0, 0, "T+"+e+"+")
	row([]int{4, 14}, "", 0, 0, "C")
	row([]int{5}, "", 0, 0, e+"B[BI]?")
	row([]int{6}, "", 0, 0, e+"B")
	row([]int{7}, "", 1, 1, e+e+e+"B")
	row([]int{8}, "", 1, 4, e+"B")
	row([]int{9, 10, 20, 21, 22, 37}, "", 0, 0, "")
	row([]int{11}, "", 0, 0, e+"*")
	row([]int{12}, "", 2, 2, "BB")
	row([]int{13}, "", 0, 0, e)
	row([]int{23, 28}, "Num", 0, 0, "")
	row([]int{24}, "Flt", 0, 0, "")
	row([]int{25}, "Str", 0, 0, "")
	row([]int{26, 27, 36}, "", 1, 1, "")
	row([]int{29, 30, 33}, "", 0, 0, e+e)
	row([]int{31}, "Op", 0, 0, e)
	row([]int{32}, "Op", 0, 0, e+e)
	row([]int{34}, "", 0, 0, e+"+")
	row([]int{35}, "Op", 0, 0, "("+e+e+")*")
	row([]int{38}, "", 0, 0, "[CR]")
	return rows
}

var (
	theRules  = rules()
	openTable = regexp.MustCompile("^([TCRNE][TCRNE])*N[CR]$")
)

type model struct{ impl.Unit }

func (m model) fault() impl.Fault {
	if m.tooMuch() {
		return fault(1, 0, 0)
	}
	perFn := map[int]func(f int) bool{2: m.badFn, 9: m.unmade}
	perNode := map[int]func(f, n int) bool{3: m.badForm, 4: m.noTree, 5: m.tooDeep, 6: m.badRefs, 7: m.badJump, 8: m.badMake}
	for code := 2; code <= 9; code++ {
		for f, fn := range m.Fns {
			if look := perFn[code]; look != nil && look(f) {
				return fault(code, f, 0)
			}
			for n := range fn.Nodes {
				if look := perNode[code]; look != nil && look(f, n) {
					return fault(code, f, n)
				}
			}
		}
	}
	return impl.Fault{}
}

func (m model) tooMuch() bool {
	nodes := 0
	for _, fn := range m.Fns {
		nodes += len(fn.Nodes)
	}
	return len(m.Fns) == 0 || len(m.Fns) > 300 || nodes > 3000
}

func (m model) badFn(f int) bool {
	fn := m.Fns[f]
	bad := len(fn.Nodes) == 0 || len(fn.Vars) > 200 || len(fn.Ups) > 200
	bad = bad || fn.Params < 0 || fn.Params > len(fn.Vars) || fn.Line < 0 || fn.Line > 100000 || len(fn.Name) > 40
	for _, name := range fn.Vars {
		bad = bad || name == "" || len(name) > 40
	}
	return bad || f == 0 && (fn.Params > 0 || len(fn.Ups) > 0)
}

func (m model) badForm(f, n int) bool {
	node := m.Fns[f].Nodes[n]
	r, known := theRules[node.Kind]
	if !known || len(node.Kids) > 200 || len(node.Refs) < r.least || len(node.Refs) > r.most {
		return true
	}
	if node.Kind < 20 && (node.Line < 1 || node.Line > 100000) || node.Kind >= 20 && node.Line != 0 {
		return true
	}
	if r.fields != "Op" && node.Op != 0 || r.fields != "Num" && node.Num != 0 || r.fields != "Flt" && node.Flt != 0 || r.fields != "Str" && node.Str != "" {
		return true
	}
	letters := ""
	for _, kid := range node.Kids {
		if kid < 0 || kid >= n {
			return true
		}
		letters += letter(m.Fns[f].Nodes[kid].Kind)
	}
	return !r.kids.MatchString(letters) || badField(node, letters)
}

func badField(node impl.Node, letters string) bool {
	switch node.Kind {
	case 3:
		return node.Num < 1 || node.Num > 200 || !regexp.MustCompile("^T{"+strconv.Itoa(int(node.Num))+"}[TCRNE]+$").MatchString(letters)
	case 24:
		return node.Flt != node.Flt
	case 25:
		return len(node.Str) > 4000
	case 28:
		return node.Num < 0 || node.Num > 14
	case 31:
		return node.Op < 19 || node.Op > 22
	case 32:
		return node.Op < 1 || node.Op > 18
	case 35:
		return node.Op != 0 && (node.Op != 1 || !openTable.MatchString(letters))
	}
	return false
}

// parent is the node of which n is a kid, and as which one of its kids.
func (m model) parent(f, n int) (node, place, times int) {
	for p, parent := range m.Fns[f].Nodes {
		for i, kid := range parent.Kids {
			if kid == n {
				node, place, times = p, i, times+1
			}
		}
	}
	return node, place, times
}

func (m model) noTree(f, n int) bool {
	if n == len(m.Fns[f].Nodes)-1 {
		return m.Fns[f].Nodes[n].Kind != 1
	}
	_, _, times := m.parent(f, n)
	return times != 1
}

func (m model) tooDeep(f, n int) bool {
	depth := 0
	for n != len(m.Fns[f].Nodes)-1 {
		n, _, _ = m.parent(f, n)
		depth++
	}
	return depth > 100
}

func (m model) inScope(f, n, v int) bool {
	fn := m.Fns[f]
	if v < 0 || v >= len(fn.Vars) {
		return false
	}
	if v < fn.Params {
		return true
	}
	for n != len(fn.Nodes)-1 {
		p, place, _ := m.parent(f, n)
		parent := fn.Nodes[p]
		inBlock := parent.Kind == 7 && place == 3 || parent.Kind == 8 && place == 1 || parent.Kind == 12 && place == 1
		if inBlock && slices.Contains(parent.Refs, v) {
			return true
		}
		for _, earlier := range parent.Kids[:place] {
			if parent.Kind == 1 && fn.Nodes[earlier].Kind == 2 && slices.Contains(fn.Nodes[earlier].Refs, v) {
				return true
			}
		}
		n = p
	}
	return false
}

func isDeclaring(kind int) bool { return kind == 2 || kind == 7 || kind == 8 || kind == 12 }

// declaredAhead tells whether v is declared ahead of the place i in the Refs
// of node n.
func (m model) declaredAhead(f, n, i, v int) bool {
	if v < m.Fns[f].Params {
		return true
	}
	for _, other := range m.Fns[f].Nodes[:n] {
		if isDeclaring(other.Kind) && slices.Contains(other.Refs, v) {
			return true
		}
	}
	return slices.Contains(m.Fns[f].Nodes[n].Refs[:i], v)
}

func (m model) badRefs(f, n int) bool {
	fn := m.Fns[f]
	node := fn.Nodes[n]
	for i, r := range node.Refs {
		switch {
		case node.Kind == 26 && !m.inScope(f, n, r):
			return true
		case node.Kind == 27 && (r < 0 || r >= len(fn.Ups)):
			return true
		case node.Kind == 36 && (r < 0 || r >= len(m.Fns)):
			return true
		case isDeclaring(node.Kind) && (r < 0 || r >= len(fn.Vars) || m.declaredAhead(f, n, i, r)):
			return true
		}
	}
	return false
}

func (m model) badJump(f, n int) bool {
	nodes := m.Fns[f].Nodes
	if nodes[n].Kind != 9 && nodes[n].Kind != 10 {
		return false
	}
	for n != len(nodes)-1 {
		n, _, _ = m.parent(f, n)
		if nodes[n].Kind >= 6 && nodes[n].Kind <= 8 {
			return false
		}
	}
	return true
}

func (m model) badMake(f, n int) bool {
	fn := m.Fns[f]
	node := fn.Nodes[n]
	if node.Kind == 37 {
		return !fn.Rest
	}
	if node.Kind != 36 {
		return false
	}
	g := node.Refs[0]
	for _, up := range m.Fns[g].Ups {
		if up.Local && !m.inScope(f, n, up.Index) || !up.Local && (up.Index < 0 || up.Index >= len(fn.Ups)) {
			return true
		}
	}
	return g <= f || m.makersAhead(f, n, g) > 0
}

func (m model) makersAhead(f, n, g int) int {
	many := 0
	for i, fn := range m.Fns {
		for j, node := range fn.Nodes {
			if node.Kind == 36 && node.Refs[0] == g && (i < f || i == f && j < n) {
				many++
			}
		}
	}
	return many
}

func (m model) unmade(f int) bool {
	return f > 0 && m.makersAhead(len(m.Fns), 0, f) == 0
}

func modelLines(u impl.Unit) []int {
	lines := map[int]bool{}
	for _, fn := range u.Fns {
		for _, n := range fn.Nodes {
			if n.Kind >= 2 && n.Kind <= 14 {
				lines[n.Line] = true
			}
		}
	}
	return slices.Sorted(maps.Keys(lines))
}
