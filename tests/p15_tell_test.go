package tests

import (
	"bytes"
	"math"
	"reflect"
	"slices"
	"strconv"
	"strings"
	"testing"

	"loop.example/meaning/impl"
)

func copyReport(r impl.Report) impl.Report {
	r.Recs, r.Vals = slices.Clone(r.Recs), slices.Clone(r.Vals)
	return r
}

// tell asks twice, and that the report stays as it was.
func tell(t *testing.T, r impl.Report) string {
	t.Helper()
	before := copyReport(r)
	b := impl.Tell(r)
	if !reflect.DeepEqual(before, r) {
		t.Errorf("the report was written into")
	}
	if again := impl.Tell(r); !bytes.Equal(b, again) {
		t.Errorf("told %.200q, and the second time %.200q", b, again)
	}
	return string(b)
}

// hear asks twice, and that the bytes stay as they were.
func hear(t *testing.T, told string) impl.Report {
	t.Helper()
	b := []byte(told)
	r := impl.Hear(b)
	if string(b) != told {
		t.Errorf("the bytes were written into")
	}
	if again := impl.Hear(b); !sameReport(r, again) {
		t.Errorf("of %.200q comes %.200v, and the second time %.200v", told, r, again)
	}
	return r
}

// wantTold asks both ways.
func wantTold(t *testing.T, r impl.Report, want string) {
	t.Helper()
	if got := tell(t, r); got != want {
		t.Errorf("%.200v is told as %.200q, want %.200q", r, got, want)
	}
	if got := hear(t, want); !sameReport(got, r) {
		t.Errorf("of %.200q comes %.200v, want %.200v", want, got, r)
	}
}

func wantUnheard(t *testing.T, told string) {
	t.Helper()
	if got := hear(t, told); !sameReport(got, impl.Report{}) {
		t.Errorf("of %.200q, which is told of no report, comes %.200v", told, got)
	}
}

func TestP15Fields(t *testing.T) {
	wantTold(t, impl.Report{}, "0 0 0 0 0 0 0 ")
	wantTold(t, impl.Report{Recs: []impl.Rec{}, Vals: []string{}}, "0 0 0 0 0 0 0 ")
	wantTold(t, impl.Report{Code: 3}, "3 0 0 0 0 0 0 ")
	wantTold(t, impl.Report{Ticks: 5000}, "0 5000 0 0 0 0 0 ")
	wantTold(t, impl.Report{Made: 20000}, "0 0 20000 0 0 0 0 ")
	wantTold(t, impl.Report{Error: "e e"}, "0 0 0 0 0 3 e e0 ")
	wantTold(t, impl.Report{Trace: "f:1 main:2"}, "0 0 0 0 0 0 10 f:1 main:2")
	wantTold(t, impl.Report{Vals: []string{""}}, "0 0 0 0 1 0 0 0 ")
	wantTold(t, impl.Report{Vals: []string{"a", "", "1 2 "}}, "0 0 0 0 3 1 a0 4 1 2 0 0 ")
	wantTold(t, impl.Report{Recs: []impl.Rec{{}}}, "0 0 0 1 0 0 0 0 0 0 0 0 ")
	wantTold(t, impl.Report{Recs: []impl.Rec{{Kind: 8, Task: 1, Fn: 2, Line: 3, Text: "4 "}, {Kind: 7, Text: "x"}}}, "0 0 0 2 8 1 2 3 2 4 7 0 0 0 1 x0 0 0 ")
	wantTold(t, impl.Report{
		Code: 1, Ticks: 2, Made: 3, Recs: []impl.Rec{{Kind: 4, Task: 5, Fn: 6, Line: 7, Text: "eight"}},
		Vals: []string{"nine", "ten"}, Error: "eleven", Trace: "twelve",
	}, "1 2 3 1 4 5 6 7 5 eight2 4 nine3 ten6 eleven6 twelve")
}

func TestP15Numbers(t *testing.T) {
	for _, n := range []int{math.MinInt, math.MinInt + 1, -1000000, -10, -1, 0, 1, 9, 10, 99, math.MaxInt - 1, math.MaxInt} {
		d := strconv.Itoa(n) + " "
		wantTold(t, impl.Report{Code: n}, d+"0 0 0 0 0 0 ")
		wantTold(t, impl.Report{Ticks: n}, "0 "+d+"0 0 0 0 0 ")
		wantTold(t, impl.Report{Made: n}, "0 0 "+d+"0 0 0 0 ")
		wantTold(t, impl.Report{Recs: []impl.Rec{{Kind: n}}}, "0 0 0 1 "+d+"0 0 0 0 0 0 0 ")
		wantTold(t, impl.Report{Recs: []impl.Rec{{Task: n}}}, "0 0 0 1 0 "+d+"0 0 0 0 0 0 ")
		wantTold(t, impl.Report{Recs: []impl.Rec{{Fn: n}}}, "0 0 0 1 0 0 "+d+"0 0 0 0 0 ")
		wantTold(t, impl.Report{Recs: []impl.Rec{{Line: n}}}, "0 0 0 1 0 0 0 "+d+"0 0 0 0 ")
	}
}

// Texts are bytes, whatever they hold.
func TestP15Texts(t *testing.T) {
	every := make([]byte, 256)
	for i := range every {
		every[i] = byte(i)
	}
	for _, s := range []string{"", " ", "  ", "0", "0 ", " 0", "-1 ", "12 34", "\n", "\x00", "\xff", "\xc3\x28", "wéb", string(every), long(4000)} {
		d := strconv.Itoa(len(s)) + " " + s
		wantTold(t, impl.Report{Error: s}, "0 0 0 0 0 "+d+"0 ")
		wantTold(t, impl.Report{Trace: s}, "0 0 0 0 0 0 "+d)
		wantTold(t, impl.Report{Vals: []string{s, s}}, "0 0 0 0 2 "+d+d+"0 0 ")
		wantTold(t, impl.Report{Recs: []impl.Rec{{Text: s}}}, "0 0 0 1 0 0 0 0 "+d+"0 0 0 ")
	}
}

// Lists have as many elements as it takes.
func TestP15Lists(t *testing.T) {
	for _, n := range []int{1, 9, 10, 99, 1000, 50000} {
		d := strconv.Itoa(n) + " "
		wantTold(t, impl.Report{Vals: make([]string, n)}, "0 0 0 0 "+d+strings.Repeat("0 ", n)+"0 0 ")
		wantTold(t, impl.Report{Recs: make([]impl.Rec, n)}, "0 0 0 "+d+strings.Repeat("0 0 0 0 0 ", n)+"0 0 0 ")
	}
}

// Each number of a report in forms in which it is not told.
func TestP15OtherNumbers(t *testing.T) {
	parts := []string{"1 ", "12 ", "-3 ", "1 ", "6 ", "1 ", "2 ", "30 ", "3 ", "a b", "2 ", "0 ", "1 ", "x", "1 ", "e", "3 ", "m:1"}
	wantTold(t, impl.Report{
		Code: 1, Ticks: 12, Made: -3, Recs: []impl.Rec{{Kind: 6, Task: 1, Fn: 2, Line: 30, Text: "a b"}},
		Vals: []string{"", "x"}, Error: "e", Trace: "m:1",
	}, strings.Join(parts, ""))
	for i, part := range parts {
		digits, isNumber := strings.CutSuffix(part, " ")
		if !isNumber {
			continue
		}
		plus := strings.TrimPrefix(digits, "-")
		for _, other := range []string{
			"", " ", "+" + plus + " ", "0" + plus + " ", "00" + plus + " ", "-0" + plus + " ", "-0 ", "+0 ", "--1 ", "-+1 ", "- ", "+ ",
			digits, " " + part, part + " ", digits + "\t", digits + "\n", digits + ". ", digits + ".0 ", digits + "e0 ", digits + "_0 ",
			"0x" + plus + " ", "0o1 ", "0b1 ", "1_0 ", "a ", "٣ ", "\xff ", digits + "\x00 ", "-" + part + " ",
			"9223372036854775808 ", "-9223372036854775809 ", "18446744073709551616 ", "18446744073709551617 ", strings.Repeat("9", 400) + " ",
		} {
			spoilt := slices.Clone(parts)
			spoilt[i] = other
			if _, heard := modelHear(strings.Join(spoilt, "")); heard {
				t.Errorf("number %d as %q is told of a report", i, other)
			}
			wantUnheard(t, strings.Join(spoilt, ""))
		}
	}
}

// A number of elements or bytes that is below 0, or for which there are too few.
func TestP15OtherLengths(t *testing.T) {
	for _, n := range []string{"-1", "-9223372036854775808", "1", "2", "100", "1000000", "9223372036854775807"} {
		wantUnheard(t, "0 0 0 "+n+" 0 0 0 ")
		wantUnheard(t, "0 0 0 0 "+n+" 0 0 ")
		wantUnheard(t, "0 0 0 0 0 "+n+" 0 ")
		wantUnheard(t, "0 0 0 0 0 0 "+n+" ")
		wantUnheard(t, "0 0 0 1 0 0 0 0 "+n+" ")
	}
	// One less or one more than there are.
	wantTold(t, impl.Report{Trace: "abc"}, "0 0 0 0 0 0 3 abc")
	wantUnheard(t, "0 0 0 0 0 0 2 abc")
	wantUnheard(t, "0 0 0 0 0 0 4 abc")
	wantTold(t, impl.Report{Vals: []string{"a", "b"}}, "0 0 0 0 2 1 a1 b0 0 ")
	wantUnheard(t, "0 0 0 0 1 1 a1 b0 0 ")
	wantUnheard(t, "0 0 0 0 3 1 a1 b0 0 ")
	wantUnheard(t, "0 0 0 2 0 0 0 0 0 0 0 0 ")
}

// Bytes behind the end, or too few of them.
func TestP15OtherEnds(t *testing.T) {
	wantUnheard(t, "")
	wantUnheard(t, "0")
	for _, r := range []impl.Report{{}, {Trace: "x"}, {Code: 1, Vals: []string{"v"}}, {Recs: make([]impl.Rec, 3), Error: "e"}} {
		whole := modelTell(r)
		wantTold(t, r, whole)
		for i := range whole {
			wantUnheard(t, whole[:i])
		}
		for _, more := range []string{" ", "0", "0 ", "\n", "\x00", whole} {
			wantUnheard(t, whole+more)
		}
	}
}

// withTrace is a report that takes so many bytes.
func withTrace(r impl.Report, size int) impl.Report {
	for r.Trace = ""; len(modelTell(r)) < size; {
		r.Trace += long(max(1, size-len(modelTell(r))-8))
	}
	return r
}

func TestP15Limit(t *testing.T) {
	for _, r := range []impl.Report{
		{}, {Code: 2, Ticks: -1}, {Vals: []string{long(4000), ""}, Error: "e"},
		{Recs: make([]impl.Rec, 90000)}, {Vals: make([]string, 400000)}, {Error: long(900000)},
	} {
		met := withTrace(r, maxTold)
		wantTold(t, met, modelTell(met))
		if n := len(tell(t, met)); n != maxTold {
			t.Errorf("%d bytes are told", n)
		}
		passed := met
		passed.Trace += "x"
		if got := tell(t, passed); got != "" {
			t.Errorf("%d bytes are told of a report that takes one too many", len(got))
		}
		if told := modelTell(passed); len(told) != maxTold+1 {
			t.Errorf("the report takes %d bytes", len(told))
		}
		wantUnheard(t, modelTell(passed))
		passed.Trace += long(5000)
		if got := tell(t, passed); got != "" {
			t.Errorf("%d bytes are told of a report that takes many too many", len(got))
		}
		wantUnheard(t, modelTell(passed))
	}
}

// The limit is passed by whatever comes last as well as by what comes first.
func TestP15LimitAnywhere(t *testing.T) {
	most := long(maxTold)
	for _, r := range []impl.Report{
		{Trace: most}, {Error: most}, {Vals: []string{most}}, {Recs: []impl.Rec{{Text: most}}},
		{Recs: make([]impl.Rec, 100000)}, {Vals: make([]string, 500000)},
	} {
		if got := tell(t, r); got != "" {
			t.Errorf("%d bytes are told", len(got))
		}
		wantUnheard(t, modelTell(r))
	}
	// One text many times takes more bytes than a machine has.
	vals := make([]string, 200000)
	for i := range vals {
		vals[i] = most
	}
	if got := tell(t, impl.Report{Vals: vals}); got != "" {
		t.Errorf("%d bytes are told", len(got))
	}
}

func TestP15NewMemory(t *testing.T) {
	r := impl.Report{Recs: []impl.Rec{{Text: "one"}, {Text: "two"}}, Vals: []string{"three", "four"}, Error: "five", Trace: "six"}
	first, second := impl.Tell(r), impl.Tell(r)
	clear(first)
	if string(second) != modelTell(r) || tell(t, r) != modelTell(r) {
		t.Errorf("other bytes have changed: %q", second)
	}
	one, two := impl.Hear(second), impl.Hear(second)
	clear(one.Recs)
	clear(one.Vals)
	clear(second)
	if !sameReport(two, r) || !sameReport(hear(t, modelTell(r)), r) {
		t.Errorf("another report has changed: %v", two)
	}
}
