package tests

import (
	"fmt"
	"slices"
	"strings"
	"testing"

	"loop.example/meaning/impl"
)

// sameView takes an empty list and nil for the same.
func sameView(a, b impl.View) bool {
	return a.Ok == b.Ok && a.Task == b.Task && slices.EqualFunc(a.Calls, b.Calls, func(x, y impl.Open) bool {
		return x.Fn == y.Fn && x.Line == y.Line && slices.Equal(x.Vars, y.Vars)
	})
}

// look asks twice, and that unit and input stay as they were.
func look(t *testing.T, u impl.Unit, in impl.Input, k int) impl.View {
	t.Helper()
	defer unchanged(t, u, in)()
	v := impl.Look(u, in, k)
	if second := impl.Look(u, in, k); !sameView(v, second) {
		t.Errorf("record %d shows\n%s\nand the second time\n%s", k, seen(v), seen(second))
	}
	return v
}

// seen writes a view: the task, and each call with its fn, its line and its
// variables.
func seen(v impl.View) string {
	if !v.Ok {
		return fmt.Sprint("nothing ", v)
	}
	out := []string{fmt.Sprint("task ", v.Task)}
	for _, c := range v.Calls {
		call := fmt.Sprintf("%d:%d", c.Fn, c.Line)
		for _, x := range c.Vars {
			call += " " + x.Name + "=" + x.Text
		}
		out = append(out, call)
	}
	return strings.Join(out, ", ")
}

// allSeen writes each record of a run, and behind it what it shows. It asks
// that nothing is shown on either side of the records, and that the report is
// the same behind all the looking.
func allSeen(t *testing.T, u impl.Unit, in impl.Input) string {
	t.Helper()
	r := run(t, u, in)
	var lines []string
	for k, x := range r.Recs {
		record := strings.TrimSpace(recordName(x.Kind) + " " + x.Text)
		lines = append(lines, record+": "+seen(look(t, u, in, k)))
	}
	wantNothing(t, u, in, -1)
	wantNothing(t, u, in, len(r.Recs))
	if after := impl.Run(u, in); !sameReport(r, after) {
		t.Errorf("a run tells\n%s\nand behind views of it\n%s", told(r), told(after))
	}
	return strings.Join(lines, "\n")
}

func wantViews(t *testing.T, text string, in impl.Input, want string) {
	t.Helper()
	if got := allSeen(t, unitFrom(text), in); got != plain(want) {
		t.Errorf("the text\n%s\nshows\n%s\nwant\n%s", text, got, plain(want))
	}
}

func wantNothing(t *testing.T, u impl.Unit, in impl.Input, k int) {
	t.Helper()
	if v := look(t, u, in, k); !sameView(v, impl.View{}) {
		t.Errorf("record %d, which there is not, shows %s", k, seen(v))
	}
}
