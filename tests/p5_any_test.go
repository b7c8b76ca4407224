package tests

import (
	"testing"

	"loop.example/meaning/impl"
)

// inputFor has allowances by chance, mostly wide ones.
func inputFor(s *sequence) impl.Input {
	in := impl.Input{Args: []string{"one", "two"}, Lines: []string{"first", "second"}, Ticks: 1000, Depth: 20, Cells: 2000}
	switch s.next() % 4 {
	case 0:
		in.Ticks = int(s.next() % 200)
	case 1:
		in.Depth = 1 + int(s.next()%5)
	case 2:
		in.Cells = int(s.next() % 60)
	}
	return in
}

// Texts that are written by chance run as they do on the model.
func TestP5AnyText(t *testing.T) {
	s := sequence(5)
	for i := range 3000 {
		text := writeText(&s)
		u, in := unitFrom(text), inputFor(&s)
		if got, want := run(t, u, in), modelRun(u, in); !sameReport(got, want) {
			t.Fatalf("text %d with %v\n%s\ntells\n%s\nwant\n%s", i, in, text, told(got), told(want))
		}
	}
}

// So do units that are grown by chance, of which most fail early.
func TestP5AnyUnit(t *testing.T) {
	s := sequence(55)
	for i := range 2000 {
		u, in := grow(&s), inputFor(&s)
		if got, want := run(t, u, in), modelRun(u, in); !sameReport(got, want) {
			t.Fatalf("unit %d with %v: %v\ntells\n%s\nwant\n%s", i, in, u, told(got), told(want))
		}
	}
}
