package tests

import (
	"fmt"
	"math"
	"strings"
	"testing"

	"loop.example/meaning/impl"
)

const (
	leastInt    = math.MinInt64
	greatestInt = math.MaxInt64
)

var minusZero = math.Copysign(0, -1)

func nilValue() impl.Value           { return impl.Value{} }
func boolean(b int64) impl.Value     { return impl.Value{Kind: impl.KBool, Num: b} }
func number(n int64) impl.Value      { return impl.Value{Kind: impl.KInt, Num: n} }
func float(f float64) impl.Value     { return impl.Value{Kind: impl.KFlt, Flt: f} }
func str(s string) impl.Value        { return impl.Value{Kind: impl.KStr, Str: s} }
func builtin(n int64) impl.Value     { return impl.Value{Kind: impl.KBuiltin, Num: n} }
func thing(kind, ref int) impl.Value { return impl.Value{Kind: kind, Ref: ref} }
func long(n int) string              { return strings.Repeat("x", n) }

// show keeps a long string from filling the page.
func show(v impl.Value) string {
	return fmt.Sprintf("{Kind %d, Num %d, Flt %x, Str %.20q (%d bytes), Ref %d}", v.Kind, v.Num, v.Flt, v.Str, len(v.Str), v.Ref)
}

// sameBits holds two values against each other as answers: zeros by their
// signs, all NaNs as one.
func sameBits(a, b impl.Value) bool {
	floats := math.Float64bits(a.Flt) == math.Float64bits(b.Flt) || math.IsNaN(a.Flt) && math.IsNaN(b.Flt)
	a.Flt, b.Flt = 0, 0
	return floats && a == b
}

func wantValue(t *testing.T, what string, got impl.Valued, want impl.Value) {
	t.Helper()
	if got.Code != 0 || !sameBits(got.Value, want) {
		t.Errorf("%s: got code %d and %s, want the value %s", what, got.Code, show(got.Value), show(want))
	}
}

func wantCode(t *testing.T, what string, got impl.Valued, code int) {
	t.Helper()
	if got.Code != code || !sameBits(got.Value, impl.Value{}) {
		t.Errorf("%s: got code %d and %s, want the code %d and no value", what, got.Code, show(got.Value), code)
	}
}

// validValues has every kind, with the ends of what each may hold.
func validValues() []impl.Value {
	vs := []impl.Value{
		nilValue(), boolean(0), boolean(1),
		str(""), str("a"), str("ab"), str("b"), str("1"), str("\x00"), str("\xff\xfe"), str(long(impl.MaxStr)), str(long(impl.MaxStr - 1)),
		thing(impl.KTable, 0), thing(impl.KTable, 1), thing(impl.KTable, math.MaxInt),
		thing(impl.KFn, 0), thing(impl.KFn, 1), thing(impl.KTask, 0), thing(impl.KTask, 1),
		builtin(0), builtin(1), builtin(impl.Builtins - 1),
	}
	for _, n := range edgeInts() {
		vs = append(vs, number(n))
	}
	for _, f := range edgeFloats() {
		vs = append(vs, float(f))
	}
	return append(vs, float(math.NaN()), float(math.Float64frombits(0xfff8000000000001)))
}

// invalidValues has every way in which a value is not valid.
func invalidValues() []impl.Value {
	return []impl.Value{
		{Kind: -1}, {Kind: 9}, {Kind: math.MaxInt}, {Kind: math.MinInt},
		{Num: 1}, {Flt: 1}, {Flt: math.NaN()}, {Str: "a"}, {Ref: 1}, {Ref: -1},
		boolean(2), boolean(-1), boolean(leastInt),
		{Kind: impl.KBool, Flt: 1}, {Kind: impl.KBool, Num: 1, Str: "a"}, {Kind: impl.KBool, Ref: 1},
		{Kind: impl.KInt, Flt: 5e-324}, {Kind: impl.KInt, Flt: math.NaN()}, {Kind: impl.KInt, Str: "a"}, {Kind: impl.KInt, Ref: 1},
		{Kind: impl.KFlt, Num: 1}, {Kind: impl.KFlt, Flt: 1, Str: "a"}, {Kind: impl.KFlt, Ref: -1},
		str(long(impl.MaxStr + 1)), {Kind: impl.KStr, Num: 1}, {Kind: impl.KStr, Flt: 1}, {Kind: impl.KStr, Ref: 1},
		thing(impl.KTable, -1), thing(impl.KFn, -1), thing(impl.KTask, math.MinInt),
		{Kind: impl.KTable, Num: 1}, {Kind: impl.KFn, Flt: 1}, {Kind: impl.KTask, Str: "a"}, {Kind: impl.KTask, Num: 1}, {Kind: impl.KFn, Num: 1},
		builtin(-1), builtin(impl.Builtins), builtin(greatestInt),
		{Kind: impl.KBuiltin, Flt: 1}, {Kind: impl.KBuiltin, Str: "a"}, {Kind: impl.KBuiltin, Ref: 1},
	}
}

func edgeInts() []int64 {
	return []int64{
		0, 1, -1, 2, -2, 3, -3, 7, -7, 63, 64, 65, 1000000007,
		1<<53 - 1, 1 << 53, 1<<53 + 1, 1<<53 + 2, -(1<<53 - 1), -(1 << 53), -(1<<53 + 1),
		1<<62 + 1, 1<<63 - 1025, 1<<63 - 1024, 1<<63 - 513, 1<<63 - 512, greatestInt - 1, greatestInt,
		leastInt, leastInt + 1, leastInt + 512, leastInt + 1024,
	}
}

// edgeFloats has no NaN.
func edgeFloats() []float64 {
	fs := []float64{0, math.Inf(1)}
	for _, f := range []float64{
		5e-324, 1e-310, 0x1p-1022, 0.1, 0.25, 0.5, 0.9999999999999999, 1, 1.5, 2, 2.5, 3, 7, 7.5, 1e15 + 0.5,
		1<<53 - 1, 1 << 53, 1<<53 + 2, 1 << 62, 1<<63 - 1024, 1 << 63, 1<<63 + 2048, 1 << 64, 1e300, math.MaxFloat64,
	} {
		fs = append(fs, f, -f)
	}
	return append(fs, minusZero, math.Inf(-1))
}

// sequence is a fixed row of numbers that look as if drawn by chance.
type sequence uint64

func (s *sequence) next() uint64 {
	*s += 0x9e3779b97f4a7c15
	z := uint64(*s)
	z = (z ^ z>>30) * 0xbf58476d1ce4e5b9
	z = (z ^ z>>27) * 0x94d049bb133111eb
	return z ^ z>>31
}

// anyInt has ints of all lengths, not only long ones.
func (s *sequence) anyInt() int64 { return int64(s.next()) >> (s.next() % 64) }

func (s *sequence) anyFloat() float64 {
	for {
		if f := math.Float64frombits(s.next()); !math.IsNaN(f) && !math.IsInf(f, 0) {
			return f
		}
	}
}
