package tests

import (
	"fmt"
	"slices"
	"strings"
	"testing"
)

// Keys of all sorts, some of which something else holds: those pairs stay.
func TestP11WeakKeys(t *testing.T) {
	s := sequence(11)
	sorts := []struct {
		key   string
		cells int
		thing bool
	}{
		{"{}", 1, true}, {"{a: 1}", 2, true}, {"fn() {}", 1, true}, {"fn() { return keep }", 2, true}, {"task(fn() {})", 2, true},
		{"print", 0, false}, {`"s" .. i`, 0, false}, {"i", 0, false}, {"i + 0.5", 0, false},
	}
	for round := range 150 {
		many := round % 31
		var text strings.Builder
		text.WriteString("let keep, i = {}, 0\nlet w = setkind({}, {weak: \"k\"})\n")
		// keep, w and its kind, of which each has what stays.
		cells := 1 + 1 + 2
		var want []string
		builtin := false
		for i := range many {
			sort := sorts[s.next()%uint64(len(sorts))]
			if sort.key == "print" && builtin {
				sort = sorts[0]
			}
			builtin = builtin || sort.key == "print"
			held := s.next()%2 == 0
			value := s.next()%3 == 0
			fmt.Fprintf(&text, "{ i = %d let k = %s w[k] = ", i+100, sort.key)
			if value {
				fmt.Fprintf(&text, "{n: i}")
			} else {
				text.WriteString("i")
			}
			if held {
				fmt.Fprintf(&text, " keep[i] = k")
				cells += 1 + sort.cells
			}
			text.WriteString(" }\n")
			if held || !sort.thing {
				cells++
				if value {
					cells += 2
				}
				want = append(want, fmt.Sprint(i+100))
			}
		}
		text.WriteString("let n = collect()\neach k, v in w { if type(v) == \"table\" { v = v.n } print(v) }\nprint(n, n == cells())")
		r := run(t, unitFrom(text.String()), lots())
		if got := printed(r); r.Code != 0 || !slices.Equal(got, append(want, fmt.Sprint(cells, " true"))) {
			t.Fatalf("%s\nprints %v (code %d, %s), want %v and %d cells", text.String(), got, r.Code, r.Error, want, cells)
		}
	}
}
