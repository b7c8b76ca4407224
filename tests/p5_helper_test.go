package tests

import (
	"fmt"
	"reflect"
	"slices"
	"strings"
	"testing"

	"loop.example/meaning/impl"
)

// The document's limits of runs, written out.
const (
	maxTicks = 5000
	maxDepth = 60
	maxTasks = 100
	maxCells = 20000
	maxInput = 200
	maxChain = 20
	maxList  = 250
)

// lots is an input with all allowances as great as they can be.
func lots() impl.Input {
	return impl.Input{Ticks: maxTicks, Depth: maxDepth, Cells: maxCells}
}

func copyInput(in impl.Input) impl.Input {
	in.Args, in.Lines = slices.Clone(in.Args), slices.Clone(in.Lines)
	return in
}

// sameReport takes an empty list and nil for the same.
func sameReport(a, b impl.Report) bool {
	recs, vals := slices.Equal(a.Recs, b.Recs), slices.Equal(a.Vals, b.Vals)
	a.Recs, a.Vals, b.Recs, b.Vals = nil, nil, nil, nil
	return recs && vals && reflect.DeepEqual(a, b)
}

// unchanged gives a check that unit and input are as they were.
func unchanged(t *testing.T, u impl.Unit, in impl.Input) func() {
	unit, input := copyUnit(u), copyInput(in)
	return func() {
		t.Helper()
		if !hasNaN(u) && !reflect.DeepEqual(unit, u) {
			t.Errorf("the unit was written into")
		}
		if !reflect.DeepEqual(input, in) {
			t.Errorf("the input was written into")
		}
	}
}

// run asks twice, and that unit and input stay as they were.
func run(t *testing.T, u impl.Unit, in impl.Input) impl.Report {
	t.Helper()
	defer unchanged(t, u, in)()
	r := impl.Run(u, in)
	if second := impl.Run(u, in); !sameReport(r, second) {
		t.Errorf("a run tells\n%s\nand the second time\n%s", told(r), told(second))
	}
	return r
}

func recordName(kind int) string {
	names := []string{"", "line", "call", "back", "throw", "catch", "print", "turn", "last"}
	if kind < 1 || kind >= len(names) {
		return fmt.Sprint("record ", kind)
	}
	return names[kind]
}

// told writes a report: of each record the name of its kind, its task, fn, line
// and text; in the last line the rest.
func told(r impl.Report) string {
	var lines []string
	for _, x := range r.Recs {
		lines = append(lines, strings.TrimRight(fmt.Sprintf("%s %d.%d:%d %s", recordName(x.Kind), x.Task, x.Fn, x.Line, x.Text), " "))
	}
	end := fmt.Sprintf("code %d, ticks %d, made %d", r.Code, r.Ticks, r.Made)
	if len(r.Vals) > 0 {
		end += ", gives " + strings.Join(r.Vals, " ")
	}
	if r.Error != "" || r.Trace != "" {
		end += ", " + r.Error + " at " + r.Trace
	}
	return strings.Join(append(lines, end), "\n")
}

// plain takes the indent of a text away, and an empty line at either end.
func plain(text string) string {
	var lines []string
	for _, line := range strings.Split(strings.Trim(text, "\n\t "), "\n") {
		lines = append(lines, strings.TrimSpace(line))
	}
	return strings.Join(lines, "\n")
}

// wantReport holds a whole report against what told writes of it.
func wantReport(t *testing.T, text string, in impl.Input, want string) {
	t.Helper()
	if got := told(run(t, unitFrom(text), in)); got != plain(want) {
		t.Errorf("the text\n%s\ntells\n%s\nwant\n%s", text, got, plain(want))
	}
}

func printed(r impl.Report) []string {
	var out []string
	for _, x := range r.Recs {
		if x.Kind == impl.RecPrint {
			out = append(out, x.Text)
		}
	}
	return out
}

// wantPrints asks for a run that comes to its end and prints these.
func wantPrints(t *testing.T, text string, in impl.Input, want ...string) {
	t.Helper()
	r := run(t, unitFrom(text), in)
	if got := printed(r); r.Code != 0 || !slices.Equal(got, want) {
		t.Errorf("the text\n%s\nhas the code %d (%s at %s) and prints %.2000q, want %q", text, r.Code, r.Error, r.Trace, strings.Join(got, "; "), want)
	}
}

// wantEnd asks for a run that an error leaves, with this trace.
func wantEnd(t *testing.T, text string, in impl.Input, err, trace string) {
	t.Helper()
	r := run(t, unitFrom(text), in)
	if r.Code != 1 || r.Error != err || r.Trace != trace || len(r.Vals) != 0 {
		t.Errorf("the text\n%s\ntells\n%s\nwant the error %q at %q", text, told(r), err, trace)
	}
}

func recordsOf(r impl.Report, kinds ...int) []impl.Rec {
	var out []impl.Rec
	for _, x := range r.Recs {
		if slices.Contains(kinds, x.Kind) {
			out = append(out, x)
		}
	}
	return out
}
