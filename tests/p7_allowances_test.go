package tests

import (
	"slices"
	"testing"

	"loop.example/meaning/impl"
)

// bounded tells whether a run came to feel its depth or its cells.
func bounded(r impl.Report) bool {
	return slices.ContainsFunc(r.Recs, func(x impl.Rec) bool {
		return x.Kind == impl.RecThrow && (x.Text == "error 8" || x.Text == "error 9")
	})
}

func TestP7MoreChangesNothing(t *testing.T) {
	s := sequence(7)
	free := 0
	for i := range 1500 {
		text := writeText(&s)
		u, in := unitFrom(text), inputFor(&s)
		r := impl.Run(u, in)
		if bounded(r) {
			continue
		}
		free++
		for _, more := range []impl.Input{{Depth: in.Depth + 1, Cells: in.Cells}, {Depth: in.Depth, Cells: in.Cells + 1}, {Depth: maxDepth, Cells: maxCells}} {
			wider := in
			wider.Depth, wider.Cells = more.Depth, more.Cells
			if got := impl.Run(u, wider); !sameReport(got, r) {
				t.Fatalf("text %d\n%s\nwith %v\n%s\nwith %v\n%s", i, text, in, told(r), wider, told(got))
			}
		}
	}
	if free < 500 {
		t.Errorf("only %d runs did without errors 8 and 9: too few to tell", free)
	}
}

// The least that a run needs: one call, or one cell, less is felt.
func TestP7TheLeast(t *testing.T) {
	u := unitFrom(`
		let f f = fn(n) { if n > 0 { return {a: f(n - 1)} } }
		return f(3), collect()`)
	in := lots()
	in.Depth, in.Cells = 5, 7
	r := run(t, u, in)
	if r.Code != 0 || bounded(r) || !sameReport(r, run(t, u, lots())) {
		t.Errorf("with what it needs\n%s", told(r))
	}
	in.Depth = 4
	if r := run(t, u, in); r.Error != "error 8" {
		t.Errorf("with a call less\n%s", told(r))
	}
	in.Depth, in.Cells = 5, 6
	if r := run(t, u, in); r.Error != "error 9" {
		t.Errorf("with a cell less\n%s", told(r))
	}
}
