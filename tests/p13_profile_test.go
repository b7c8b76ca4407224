package tests

import (
	"cmp"
	"math"
	"slices"
	"testing"

	"loop.example/meaning/impl"
)

func lineAt(fn, line int) impl.Rec { return impl.Rec{Kind: impl.RecLine, Fn: fn, Line: line} }

// profile asks that the report stays as it was.
func profile(t *testing.T, recs ...impl.Rec) []impl.Count {
	t.Helper()
	before := slices.Clone(recs)
	counts := impl.Profile(impl.Report{Recs: recs})
	if !slices.Equal(before, recs) {
		t.Errorf("the report was written into")
	}
	return counts
}

func wantProfile(t *testing.T, recs []impl.Rec, want ...impl.Count) {
	t.Helper()
	if got := profile(t, recs...); !slices.Equal(got, want) {
		t.Errorf("the profile of %v is %v, want %v", recs, got, want)
	}
}

func TestP13Profile(t *testing.T) {
	wantProfile(t, nil)
	wantProfile(t, []impl.Rec{})
	wantProfile(t, []impl.Rec{{}}) // the kind 0 is none of lines
	wantProfile(t, []impl.Rec{lineAt(0, 0)}, impl.Count{Hits: 1})
	wantProfile(t, []impl.Rec{lineAt(2, 9), lineAt(0, 7), lineAt(2, 9), lineAt(1, 8), lineAt(0, 10), lineAt(2, 1), lineAt(2, 9)},
		impl.Count{Line: 7, Hits: 1}, impl.Count{Line: 10, Hits: 1}, impl.Count{Fn: 1, Line: 8, Hits: 1},
		impl.Count{Fn: 2, Line: 1, Hits: 1}, impl.Count{Fn: 2, Line: 9, Hits: 3})
}

// Only records of lines count, whatever the others say.
func TestP13OtherRecords(t *testing.T) {
	var others []impl.Rec
	for _, kind := range []int{impl.RecCall, impl.RecBack, impl.RecThrow, impl.RecCatch, impl.RecPrint, impl.RecTurn, impl.RecLast, 0, 9, -1, math.MinInt, math.MaxInt} {
		others = append(others, impl.Rec{Kind: kind, Task: 1, Fn: 2, Line: 3, Text: "x"})
	}
	wantProfile(t, others)
	with := slices.Concat(others, []impl.Rec{lineAt(2, 3)}, others)
	wantProfile(t, with, impl.Count{Fn: 2, Line: 3, Hits: 1})
}

// Neither the task nor the text of a record parts it from others.
func TestP13OneEach(t *testing.T) {
	recs := []impl.Rec{lineAt(1, 5), lineAt(1, 5), lineAt(1, 5), lineAt(5, 1)}
	recs[0].Task, recs[1].Task, recs[2].Text = 1, -1, "x"
	wantProfile(t, recs, impl.Count{Fn: 1, Line: 5, Hits: 3}, impl.Count{Fn: 5, Line: 1, Hits: 1})
}

// Fns and lines may be any numbers, also below 0.
func TestP13AnyNumbers(t *testing.T) {
	edges := []int{math.MaxInt, 1, 0, -1, math.MinInt, 100001}
	sorted := slices.Sorted(slices.Values(edges))
	var recs []impl.Rec
	var want []impl.Count
	for _, fn := range edges {
		for _, line := range edges {
			recs = append(recs, lineAt(fn, line))
		}
	}
	for _, fn := range sorted {
		for _, line := range sorted {
			want = append(want, impl.Count{Fn: fn, Line: line, Hits: 1})
		}
	}
	wantProfile(t, recs, want...)
}

// counted goes through the records once for each of them.
func counted(recs []impl.Rec) []impl.Count {
	var counts []impl.Count
	for _, x := range recs {
		c := impl.Count{Fn: x.Fn, Line: x.Line}
		for _, y := range recs {
			if y.Kind == impl.RecLine && y.Fn == x.Fn && y.Line == x.Line {
				c.Hits++
			}
		}
		if x.Kind == impl.RecLine && !slices.Contains(counts, c) {
			counts = append(counts, c)
		}
	}
	slices.SortFunc(counts, func(a, b impl.Count) int {
		return cmp.Or(cmp.Compare(a.Fn, b.Fn), cmp.Compare(a.Line, b.Line))
	})
	return counts
}

func TestP13AnyRecords(t *testing.T) {
	s := sequence(13)
	small := func() int { return int(s.next()%7) - 3 }
	for range 500 {
		var recs []impl.Rec
		for range s.next() % 120 {
			recs = append(recs, impl.Rec{Kind: 1 + int(s.next()%2), Task: small(), Fn: small(), Line: small()})
		}
		wantProfile(t, recs, counted(recs)...)
	}
}

// The profile of a run tells how often each statement was begun.
func TestP13Runs(t *testing.T) {
	r := run(t, unitFrom(`let n = 0
		let f = fn f() {
		  n = n + 1
		}
		for i = 1, 3, 1 {
		  f()
		  if i > 1 { f() f() }
		}
		try {
		  throw n
		} catch e, s { print(e) }`), lots())
	wantProfile(t, r.Recs,
		impl.Count{Line: 1, Hits: 1}, impl.Count{Line: 2, Hits: 1}, impl.Count{Line: 5, Hits: 1},
		impl.Count{Line: 6, Hits: 3}, impl.Count{Line: 7, Hits: 3 + 4}, impl.Count{Line: 9, Hits: 1},
		impl.Count{Line: 10, Hits: 1}, impl.Count{Line: 11, Hits: 1}, impl.Count{Fn: 1, Line: 3, Hits: 7})
	s := sequence(1313)
	for range 100 {
		r := impl.Run(unitFrom(writeText(&s)), inputFor(&s))
		wantProfile(t, r.Recs, counted(r.Recs)...)
	}
	wantProfile(t, impl.Run(impl.Unit{}, lots()).Recs)
}

func TestP13NewMemory(t *testing.T) {
	recs := []impl.Rec{lineAt(1, 2), lineAt(0, 3)}
	first, second := profile(t, recs...), profile(t, recs...)
	clear(first)
	want := []impl.Count{{Line: 3, Hits: 1}, {Fn: 1, Line: 2, Hits: 1}}
	if !slices.Equal(second, want) {
		t.Errorf("another profile has changed: %v", second)
	}
	wantProfile(t, recs, want...)
}
