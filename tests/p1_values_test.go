package tests

import (
	"math"
	"math/big"
	"strconv"
	"strings"
	"testing"

	"loop.example/meaning/impl"
)

func TestP1ConstantsAreThoseOfTheTables(t *testing.T) {
	kinds := []int{impl.KNil, impl.KBool, impl.KInt, impl.KFlt, impl.KStr, impl.KTable, impl.KFn, impl.KTask, impl.KBuiltin}
	for i, k := range kinds {
		if k != i {
			t.Errorf("kind %d is %d", i, k)
		}
	}
	ops := []int{
		impl.OpAdd, impl.OpSub, impl.OpMul, impl.OpDiv, impl.OpIDiv, impl.OpMod, impl.OpAnd, impl.OpOr, impl.OpXor, impl.OpShl, impl.OpShr,
		impl.OpJoin, impl.OpEq, impl.OpNe, impl.OpLt, impl.OpLe, impl.OpGt, impl.OpGe, impl.OpNeg, impl.OpFlip, impl.OpNot, impl.OpLen,
	}
	for i, op := range ops {
		if op != i+1 {
			t.Errorf("op %d is %d", i+1, op)
		}
	}
	codes := []int{
		impl.ErrType, impl.ErrZero, impl.ErrRange, impl.ErrLong, impl.ErrKey, impl.ErrCall, impl.ErrIndex, impl.ErrDepth,
		impl.ErrCells, impl.ErrTask, impl.ErrLoop, impl.ErrArgs, impl.ErrTicks, impl.ErrStep, impl.ErrUnit,
	}
	for i, code := range codes {
		if code != i+1 {
			t.Errorf("code %d is %d", i+1, code)
		}
	}
}

func TestP1ValueOk(t *testing.T) {
	for _, v := range validValues() {
		if !impl.ValueOk(v) {
			t.Errorf("%s is valid", show(v))
		}
	}
	for _, v := range invalidValues() {
		if impl.ValueOk(v) {
			t.Errorf("%s is not valid", show(v))
		}
	}
}

func TestP1UnusedFloatMayBeAZeroOfEitherSign(t *testing.T) {
	for _, v := range validValues() {
		if v.Kind == impl.KFlt {
			continue
		}
		w := v
		w.Flt = minusZero
		if !impl.ValueOk(w) || !impl.Same(w, v) || impl.Text(w) != impl.Text(v) || impl.Truth(w) != impl.Truth(v) {
			t.Errorf("%s with -0.0 in Flt", show(v))
		}
		if v.Kind != impl.KNil {
			wantValue(t, "Key keeps the sign", impl.Key(w), w)
		}
	}
	wantCode(t, "nil with -0.0", impl.Key(impl.Value{Flt: minusZero}), impl.ErrKey)
	wantValue(t, "what is worked out has no such sign", impl.Unary(impl.OpNeg, impl.Value{Kind: impl.KInt, Num: 1, Flt: minusZero}), number(-1))
}

func TestP1Truth(t *testing.T) {
	for _, v := range validValues() {
		want := v.Kind != impl.KNil && (v.Kind != impl.KBool || v.Num == 1)
		if impl.Truth(v) != want {
			t.Errorf("truth of %s is not %v", show(v), want)
		}
	}
	for _, v := range invalidValues() {
		if impl.Truth(v) {
			t.Errorf("truth of %s", show(v))
		}
	}
}

// exact gives a number as a fraction; nil for an infinity or a NaN.
func exact(v impl.Value) *big.Rat {
	if v.Kind == impl.KInt {
		return new(big.Rat).SetInt64(v.Num)
	}
	return new(big.Rat).SetFloat64(v.Flt)
}

func isNumber(v impl.Value) bool { return v.Kind == impl.KInt || v.Kind == impl.KFlt }
func isNaN(v impl.Value) bool    { return v.Kind == impl.KFlt && math.IsNaN(v.Flt) }

// side is -1 or 1 for an infinity, 0 for all else.
func side(v impl.Value) int {
	switch {
	case v.Kind == impl.KFlt && math.IsInf(v.Flt, 1):
		return 1
	case v.Kind == impl.KFlt && math.IsInf(v.Flt, -1):
		return -1
	}
	return 0
}

// compared is Compare by way of fractions.
func compared(a, b impl.Value) int {
	switch {
	case a.Kind == impl.KStr && b.Kind == impl.KStr:
		return strings.Compare(a.Str, b.Str)
	case !isNumber(a) || !isNumber(b):
		return 3
	case isNaN(a) || isNaN(b):
		return 2
	case side(a) != 0 || side(b) != 0:
		return min(max(side(a)-side(b), -1), 1)
	}
	return exact(a).Cmp(exact(b))
}

func same(a, b impl.Value) bool {
	if isNumber(a) && isNumber(b) {
		return compared(a, b) == 0
	}
	return a == b
}

func TestP1CompareAndSameOfAllPairs(t *testing.T) {
	for _, a := range validValues() {
		for _, b := range validValues() {
			if got := impl.Compare(a, b); got != compared(a, b) {
				t.Errorf("Compare(%s, %s) is %d, not %d", show(a), show(b), got, compared(a, b))
			}
			if got := impl.Same(a, b); got != same(a, b) {
				t.Errorf("Same(%s, %s) is %v", show(a), show(b), got)
			}
		}
	}
}

func TestP1CompareNamedEdges(t *testing.T) {
	nan := float(math.NaN())
	for _, c := range []struct {
		a, b impl.Value
		want int
	}{
		{number(1<<53 + 1), float(1 << 53), 1}, {float(1 << 53), number(1<<53 + 1), -1}, {number(1 << 53), float(1 << 53), 0},
		{number(-(1<<53 + 1)), float(-(1 << 53)), -1},
		{number(greatestInt), float(1 << 63), -1}, {float(1 << 63), number(greatestInt), 1},
		{number(leastInt), float(-(1 << 63)), 0}, {float(-(1 << 63)), number(leastInt), 0}, {number(leastInt), float(-(1<<63 + 2048)), 1},
		{float(0), float(minusZero), 0}, {float(minusZero), number(0), 0}, {float(-5e-324), number(0), -1}, {float(5e-324), number(0), 1},
		{float(math.Inf(1)), float(math.Inf(1)), 0}, {float(math.Inf(-1)), float(math.Inf(1)), -1},
		{nan, nan, 2}, {nan, number(0), 2}, {number(0), nan, 2}, {float(math.Inf(1)), nan, 2},
		{nan, str(""), 3}, {str(""), nan, 3}, {nan, nilValue(), 3}, {nan, boolean(2), 3}, {boolean(2), nan, 3},
		{str(""), str(""), 0}, {str(""), str("\x00"), -1}, {str("\xff"), str("a"), 1}, {str("ab"), str("b"), -1},
		{str(long(impl.MaxStr)), str(long(impl.MaxStr - 1)), 1}, {str(long(impl.MaxStr + 1)), str("a"), 3}, {str("a"), str(long(impl.MaxStr + 1)), 3},
		{boolean(0), boolean(1), 3}, {nilValue(), nilValue(), 3}, {thing(impl.KTable, 1), thing(impl.KTable, 1), 3}, {builtin(1), number(1), 3},
	} {
		if got := impl.Compare(c.a, c.b); got != c.want {
			t.Errorf("Compare(%s, %s) is %d, not %d", show(c.a), show(c.b), got, c.want)
		}
	}
}

func TestP1SameTellsKindsApart(t *testing.T) {
	for _, c := range []struct {
		a, b impl.Value
		want bool
	}{
		{number(1), float(1), true}, {float(0), float(minusZero), true}, {number(0), float(minusZero), true},
		{float(math.NaN()), float(math.NaN()), false}, {float(math.NaN()), number(0), false},
		{number(1), boolean(1), false}, {number(1), builtin(1), false}, {number(1), str("1"), false}, {number(0), nilValue(), false}, {nilValue(), boolean(0), false},
		{thing(impl.KTable, 3), thing(impl.KTable, 3), true}, {thing(impl.KTable, 3), thing(impl.KTable, 4), false}, {thing(impl.KTable, 3), thing(impl.KFn, 3), false},
		{thing(impl.KFn, 0), thing(impl.KTask, 0), false}, {builtin(14), builtin(14), true}, {nilValue(), nilValue(), true},
	} {
		if impl.Same(c.a, c.b) != c.want || impl.Same(c.b, c.a) != c.want {
			t.Errorf("Same(%s, %s) is not %v", show(c.a), show(c.b), c.want)
		}
	}
}

func TestP1NothingIsSaidOfInvalidValues(t *testing.T) {
	partners := append(validValues(), invalidValues()...)
	for _, bad := range invalidValues() {
		for _, v := range partners {
			if impl.Same(bad, v) || impl.Same(v, bad) || impl.Compare(bad, v) != 3 || impl.Compare(v, bad) != 3 {
				t.Errorf("%s beside %s", show(bad), show(v))
			}
		}
		for op := -1; op <= 24; op++ {
			for _, v := range []impl.Value{bad, number(1), float(1), str("a"), nilValue()} {
				wantCode(t, "Binary", impl.Binary(op, bad, v), impl.ErrType)
				wantCode(t, "Binary", impl.Binary(op, v, bad), impl.ErrType)
			}
			wantCode(t, "Unary", impl.Unary(op, bad), impl.ErrType)
		}
		if impl.Text(bad) != "" {
			t.Errorf("Text of %s", show(bad))
		}
		wantCode(t, "Key", impl.Key(bad), impl.ErrType)
	}
}

func TestP1OpsOutsideTheTables(t *testing.T) {
	for _, v := range []impl.Value{number(1), float(1), str("a"), nilValue(), boolean(1)} {
		for _, op := range []int{0, -1, 19, 20, 21, 22, 23, 1 + 1<<32, math.MaxInt, math.MinInt} {
			wantCode(t, "Binary", impl.Binary(op, v, v), impl.ErrType)
		}
		for _, op := range []int{0, -1, 1, 2, 12, 13, 18, 23, 21 + 1<<32, math.MaxInt, math.MinInt} {
			wantCode(t, "Unary", impl.Unary(op, v), impl.ErrType)
		}
	}
}

// wrapped is n modulo 2^64, as an int.
func wrapped(n *big.Int) impl.Value {
	low := new(big.Int).And(n, new(big.Int).SetUint64(math.MaxUint64))
	return number(int64(low.Uint64()))
}

// wholeOps is what an op gives of two ints, by way of ints without end.
func wholeOps(op int, a, b int64) *big.Int {
	x, y, z := big.NewInt(a), big.NewInt(b), new(big.Int)
	switch op {
	case impl.OpAdd:
		return z.Add(x, y)
	case impl.OpSub:
		return z.Sub(x, y)
	case impl.OpMul:
		return z.Mul(x, y)
	case impl.OpIDiv:
		return floorQuotient(x, y)
	case impl.OpMod:
		return z.Sub(x, new(big.Int).Mul(y, floorQuotient(x, y)))
	case impl.OpAnd:
		return z.And(x, y)
	case impl.OpOr:
		return z.Or(x, y)
	}
	return z.Xor(x, y)
}

func floorQuotient(x, y *big.Int) *big.Int {
	q, r := new(big.Int).QuoRem(x, y, new(big.Int))
	if r.Sign()*y.Sign() < 0 {
		q.Sub(q, big.NewInt(1))
	}
	return q
}

func checkWholeOps(t *testing.T, a, b int64) {
	t.Helper()
	for _, op := range []int{impl.OpAdd, impl.OpSub, impl.OpMul, impl.OpIDiv, impl.OpMod, impl.OpAnd, impl.OpOr, impl.OpXor} {
		what := "op " + strconv.Itoa(op) + " of " + strconv.FormatInt(a, 10) + " and " + strconv.FormatInt(b, 10)
		got := impl.Binary(op, number(a), number(b))
		if b == 0 && (op == impl.OpIDiv || op == impl.OpMod) {
			wantCode(t, what, got, impl.ErrZero)
			continue
		}
		wantValue(t, what, got, wrapped(wholeOps(op, a, b)))
	}
}

func TestP1WholeArithmeticWraps(t *testing.T) {
	for _, a := range edgeInts() {
		for _, b := range edgeInts() {
			checkWholeOps(t, a, b)
		}
	}
	s := sequence(1)
	for range 2000 {
		checkWholeOps(t, s.anyInt(), s.anyInt())
	}
	wantValue(t, "least int by -1", impl.Binary(impl.OpIDiv, number(leastInt), number(-1)), number(leastInt))
	wantValue(t, "its rest", impl.Binary(impl.OpMod, number(leastInt), number(-1)), number(0))
}

func TestP1Shifts(t *testing.T) {
	for _, a := range edgeInts() {
		for b := int64(0); b < 64; b++ {
			wantValue(t, "left", impl.Binary(impl.OpShl, number(a), number(b)), number(int64(uint64(a)<<b)))
			wantValue(t, "right", impl.Binary(impl.OpShr, number(a), number(b)), number(int64(uint64(a)>>b)))
		}
		for _, b := range []int64{64, 65, 1 << 32, greatestInt} {
			wantValue(t, "left, far", impl.Binary(impl.OpShl, number(a), number(b)), number(0))
			wantValue(t, "right, far", impl.Binary(impl.OpShr, number(a), number(b)), number(0))
		}
		for _, b := range []int64{-1, -64, leastInt} {
			wantCode(t, "left, below 0", impl.Binary(impl.OpShl, number(a), number(b)), impl.ErrRange)
			wantCode(t, "right, below 0", impl.Binary(impl.OpShr, number(a), number(b)), impl.ErrRange)
		}
	}
	wantValue(t, "-1 by 63", impl.Binary(impl.OpShr, number(-1), number(63)), number(1))
	wantValue(t, "1 by 63", impl.Binary(impl.OpShl, number(1), number(63)), number(leastInt))
}

// rounded is an exact fraction as the nearest float, halves to even.
func rounded(r *big.Rat) float64 {
	f, _ := r.Float64()
	return f
}

// floatOps is what an op gives of two finite floats; ok is false where the
// sign of a zero, an overflow or a quotient by 0 goes beyond fractions.
func floatOps(op int, f, g float64) (want float64, ok bool) {
	x, y, z := new(big.Rat).SetFloat64(f), new(big.Rat).SetFloat64(g), new(big.Rat)
	if y.Sign() == 0 && op >= impl.OpDiv {
		return 0, false
	}
	switch op {
	case impl.OpAdd:
		want = rounded(z.Add(x, y))
	case impl.OpSub:
		want = rounded(z.Sub(x, y))
	case impl.OpMul:
		want = rounded(z.Mul(x, y))
	case impl.OpDiv:
		want = rounded(z.Quo(x, y))
	case impl.OpIDiv:
		want = floorOf(rounded(z.Quo(x, y)))
	default:
		return floatRest(x, y)
	}
	return want, want != 0
}

func floatRest(x, y *big.Rat) (float64, bool) {
	floor := floorOf(rounded(new(big.Rat).Quo(x, y)))
	if math.IsInf(floor, 0) {
		return 0, false
	}
	product := rounded(new(big.Rat).Mul(new(big.Rat).SetFloat64(floor), y))
	if math.IsInf(product, 0) {
		return 0, false
	}
	want := rounded(new(big.Rat).Sub(x, new(big.Rat).SetFloat64(product)))
	return want, want != 0
}

func floorOf(f float64) float64 {
	if f == 0 || math.IsInf(f, 0) {
		return f
	}
	r := new(big.Rat).SetFloat64(f)
	return rounded(new(big.Rat).SetInt(floorQuotient(r.Num(), r.Denom())))
}

func checkFloatOps(t *testing.T, a, b impl.Value, f, g float64) {
	t.Helper()
	for op := impl.OpAdd; op <= impl.OpMod; op++ {
		if want, ok := floatOps(op, f, g); ok {
			wantValue(t, "op "+strconv.Itoa(op)+" of "+impl.Text(a)+" and "+impl.Text(b), impl.Binary(op, a, b), float(want))
		}
	}
}

func TestP1FloatArithmeticIsRoundedStepByStep(t *testing.T) {
	for _, f := range edgeFloats() {
		for _, g := range edgeFloats() {
			if !math.IsInf(f, 0) && !math.IsInf(g, 0) {
				checkFloatOps(t, float(f), float(g), f, g)
			}
		}
	}
	s := sequence(2)
	for range 3000 {
		f, g := s.anyFloat(), s.anyFloat()
		checkFloatOps(t, float(f), float(g), f, g)
		near := f * (1 + float64(s.anyInt()%1000)/7)
		if !math.IsInf(near, 0) {
			checkFloatOps(t, float(near), float(f), near, f)
		}
	}
}

func TestP1AnIntBesideAFloatIsMadeAFloatFirst(t *testing.T) {
	s := sequence(3)
	for _, n := range edgeInts() {
		made := rounded(new(big.Rat).SetInt64(n))
		for _, f := range []float64{1, -1, 0.5, 3, -7.5, 1 << 53, 1e300, s.anyFloat()} {
			checkFloatOps(t, number(n), float(f), made, f)
			checkFloatOps(t, float(f), number(n), f, made)
		}
		wantValue(t, "quotient of ints", impl.Binary(impl.OpDiv, number(n), number(1)), float(made))
	}
	wantValue(t, "2^53 + 1 as a float", impl.Binary(impl.OpAdd, number(1<<53+1), float(0)), float(1<<53))
	wantValue(t, "both rounded first", impl.Binary(impl.OpDiv, number(1<<53+1), number(1<<53+3)), float(float64(1<<53)/float64(1<<53+4)))
}

func TestP1FloatEdges(t *testing.T) {
	inf, nan, down := math.Inf(1), math.NaN(), math.Inf(-1)
	for i, c := range []struct {
		op   int
		a, b impl.Value
		want float64
	}{
		{impl.OpDiv, number(1), number(0), inf}, {impl.OpDiv, number(-1), number(0), down}, {impl.OpDiv, number(0), number(0), nan}, {impl.OpDiv, float(1), float(minusZero), down},
		{impl.OpDiv, number(0), number(-5), minusZero}, {impl.OpDiv, number(leastInt), number(-1), 1 << 63},
		{impl.OpIDiv, float(1), number(0), inf}, {impl.OpIDiv, float(-1), number(0), down}, {impl.OpIDiv, number(0), float(0), nan}, {impl.OpIDiv, float(nan), number(1), nan},
		{impl.OpIDiv, float(0), number(1), 0}, {impl.OpIDiv, float(0), number(-1), minusZero}, {impl.OpIDiv, float(minusZero), number(1), minusZero},
		{impl.OpIDiv, float(0.5), number(1), 0}, {impl.OpIDiv, float(-0.5), number(1), -1}, {impl.OpIDiv, float(-5e-324), number(1), -1}, {impl.OpIDiv, float(inf), number(2), inf},
		{impl.OpIDiv, float(-7), number(2), -4}, {impl.OpIDiv, float(1), float(down), minusZero}, {impl.OpIDiv, float(-1e300), float(1e-300), down},
		{impl.OpMod, float(5), number(0), nan}, {impl.OpMod, float(5), float(inf), nan}, {impl.OpMod, float(-5), float(inf), nan}, {impl.OpMod, float(inf), number(2), nan},
		{impl.OpMod, float(nan), number(1), nan}, {impl.OpMod, float(-7.5), number(2), 0.5}, {impl.OpMod, number(7), float(-2), -1}, {impl.OpMod, float(6), number(3), 0},
		{impl.OpMod, float(minusZero), number(3), 0}, {impl.OpMod, float(1e308), float(1e-308), down},
		{impl.OpAdd, float(inf), float(down), nan}, {impl.OpAdd, float(minusZero), float(minusZero), minusZero}, {impl.OpAdd, float(minusZero), number(0), 0},
		{impl.OpSub, float(0), float(0), 0}, {impl.OpSub, float(minusZero), number(0), minusZero}, {impl.OpMul, float(inf), number(0), nan}, {impl.OpMul, float(-1), number(0), minusZero},
		{impl.OpMul, float(math.MaxFloat64), number(2), inf}, {impl.OpAdd, float(1), float(0x1p-53), 1}, {impl.OpAdd, float(1 + 0x1p-52), float(0x1p-53), 1 + 0x1p-51},
	} {
		wantValue(t, "case "+strconv.Itoa(i), impl.Binary(c.op, c.a, c.b), float(c.want))
	}
}

// The product of floor and divisor is rounded ahead of the difference: a
// machine that fuses both would leave another rest.
func TestP1RestIsNotFused(t *testing.T) {
	f, g := 1.0, 0.1
	floor := floorOf(f / g)
	product := rounded(new(big.Rat).Mul(new(big.Rat).SetFloat64(floor), new(big.Rat).SetFloat64(g)))
	wantValue(t, "1.0 by 0.1", impl.Binary(impl.OpMod, float(f), float(g)), float(f-product))
	if fused := math.FMA(-floor, g, f); fused == f-product {
		t.Error("the case tells nothing")
	}
}

func TestP1OperationsAreOnlyForSomeValues(t *testing.T) {
	for _, a := range validValues() {
		for _, b := range validValues() {
			numbers, ints := isNumber(a) && isNumber(b), a.Kind == impl.KInt && b.Kind == impl.KInt
			texts := (isNumber(a) || a.Kind == impl.KStr) && (isNumber(b) || b.Kind == impl.KStr)
			for op := 1; op <= 18; op++ {
				fits := op <= impl.OpMod && numbers || op >= impl.OpAnd && op <= impl.OpShr && ints || op == impl.OpJoin && texts ||
					op == impl.OpEq || op == impl.OpNe || op >= impl.OpLt && compared(a, b) != 3
				got := impl.Binary(op, a, b)
				if !fits {
					wantCode(t, "op "+strconv.Itoa(op), got, impl.ErrType)
				} else if got.Code == impl.ErrType {
					t.Errorf("op %d of %s and %s is refused", op, show(a), show(b))
				}
			}
		}
	}
}

func asBoolean(b bool) impl.Value {
	if b {
		return boolean(1)
	}
	return boolean(0)
}

func TestP1Relations(t *testing.T) {
	for _, a := range validValues() {
		for _, b := range validValues() {
			wantValue(t, "eq", impl.Binary(impl.OpEq, a, b), asBoolean(same(a, b)))
			wantValue(t, "ne", impl.Binary(impl.OpNe, a, b), asBoolean(!same(a, b)))
			c := compared(a, b)
			if c == 3 {
				continue
			}
			wantValue(t, "lt", impl.Binary(impl.OpLt, a, b), asBoolean(c == -1))
			wantValue(t, "le", impl.Binary(impl.OpLe, a, b), asBoolean(c == -1 || c == 0))
			wantValue(t, "gt", impl.Binary(impl.OpGt, a, b), asBoolean(c == 1))
			wantValue(t, "ge", impl.Binary(impl.OpGe, a, b), asBoolean(c == 1 || c == 0))
		}
	}
}

func TestP1Join(t *testing.T) {
	half := long(impl.MaxStr / 2)
	wantValue(t, "strings", impl.Binary(impl.OpJoin, str("ab"), str("c")), str("abc"))
	wantValue(t, "empty", impl.Binary(impl.OpJoin, str(""), str("")), str(""))
	wantValue(t, "ints", impl.Binary(impl.OpJoin, number(-1), number(2)), str("-12"))
	wantValue(t, "floats", impl.Binary(impl.OpJoin, float(1.5), float(math.Inf(-1))), str("3p-1-inf"))
	wantValue(t, "a NaN", impl.Binary(impl.OpJoin, float(math.NaN()), str("\xff")), str("nan\xff"))
	wantValue(t, "just long enough", impl.Binary(impl.OpJoin, str(half), str(half)), str(long(impl.MaxStr)))
	wantCode(t, "one too long", impl.Binary(impl.OpJoin, str(half+"x"), str(half)), impl.ErrLong)
	wantValue(t, "full and nothing", impl.Binary(impl.OpJoin, str(long(impl.MaxStr)), str("")), str(long(impl.MaxStr)))
	wantCode(t, "full and a digit", impl.Binary(impl.OpJoin, str(long(impl.MaxStr)), number(0)), impl.ErrLong)
	wantCode(t, "both full", impl.Binary(impl.OpJoin, str(long(impl.MaxStr)), str(long(impl.MaxStr))), impl.ErrLong)
	wantCode(t, "full and nil", impl.Binary(impl.OpJoin, str(long(impl.MaxStr)), nilValue()), impl.ErrType)
	wantCode(t, "a bool", impl.Binary(impl.OpJoin, boolean(1), str("a")), impl.ErrType)
	wantCode(t, "a table", impl.Binary(impl.OpJoin, str("a"), thing(impl.KTable, 0)), impl.ErrType)
}

func TestP1Unary(t *testing.T) {
	for _, v := range validValues() {
		wantValue(t, "not", impl.Unary(impl.OpNot, v), asBoolean(!impl.Truth(v)))
		switch v.Kind {
		case impl.KInt:
			wantValue(t, "neg", impl.Unary(impl.OpNeg, v), wrapped(new(big.Int).Neg(big.NewInt(v.Num))))
			wantValue(t, "flip", impl.Unary(impl.OpFlip, v), number(-1-v.Num))
		case impl.KFlt:
			wantValue(t, "neg", impl.Unary(impl.OpNeg, v), float(math.Float64frombits(math.Float64bits(v.Flt)^1<<63)))
		default:
			wantCode(t, "neg", impl.Unary(impl.OpNeg, v), impl.ErrType)
		}
		if v.Kind != impl.KInt {
			wantCode(t, "flip", impl.Unary(impl.OpFlip, v), impl.ErrType)
		}
		if v.Kind == impl.KStr {
			wantValue(t, "len", impl.Unary(impl.OpLen, v), number(int64(len(v.Str))))
		} else {
			wantCode(t, "len", impl.Unary(impl.OpLen, v), impl.ErrType)
		}
	}
	wantValue(t, "the least int", impl.Unary(impl.OpNeg, number(leastInt)), number(leastInt))
	wantValue(t, "a zero", impl.Unary(impl.OpNeg, float(0)), float(minusZero))
	wantValue(t, "the other zero", impl.Unary(impl.OpNeg, float(minusZero)), float(0))
	wantValue(t, "bytes, not runes", impl.Unary(impl.OpLen, str("\u00e9\u20ac")), number(5))
	wantCode(t, "a table has no length here", impl.Unary(impl.OpLen, thing(impl.KTable, 0)), impl.ErrType)
}

func TestP1Text(t *testing.T) {
	for _, c := range []struct {
		v    impl.Value
		want string
	}{
		{nilValue(), "nil"}, {boolean(0), "false"}, {boolean(1), "true"}, {number(0), "0"}, {number(-1), "-1"}, {number(greatestInt), "9223372036854775807"}, {number(leastInt), "-9223372036854775808"},
		{str(""), ""}, {str("a\x00\xff"), "a\x00\xff"}, {str(long(impl.MaxStr)), long(impl.MaxStr)},
		{thing(impl.KTable, 7), "table"}, {thing(impl.KFn, 7), "fn"}, {thing(impl.KTask, 7), "task"}, {builtin(7), "builtin"},
		{float(0), "0p0"}, {float(minusZero), "-0p0"}, {float(math.Inf(1)), "inf"}, {float(math.Inf(-1)), "-inf"}, {float(math.NaN()), "nan"}, {float(math.Float64frombits(1<<64 - 1)), "nan"},
		{float(1), "1p0"}, {float(-1), "-1p0"}, {float(1.5), "3p-1"}, {float(-8), "-1p3"}, {float(6), "3p1"}, {float(0.1), "3602879701896397p-55"}, {float(1<<53 - 1), "9007199254740991p0"},
		{float(1 << 53), "1p53"}, {float(1 << 63), "1p63"}, {float(math.MaxFloat64), "9007199254740991p971"}, {float(5e-324), "1p-1074"}, {float(-0x1p-1022), "-1p-1022"}, {float(0x1.8p-1073), "3p-1074"},
		{str(long(impl.MaxStr + 1)), ""}, {boolean(2), ""}, {builtin(impl.Builtins), ""}, {impl.Value{Kind: 9}, ""},
	} {
		if got := impl.Text(c.v); got != c.want {
			t.Errorf("Text of %s is %q, not %q", show(c.v), got, c.want)
		}
	}
}

// checkFloatText reads the text back by way of fractions.
func checkFloatText(t *testing.T, f float64) {
	t.Helper()
	text := impl.Text(float(f))
	head, tail, ok := strings.Cut(text, "p")
	m, failM := strconv.ParseInt(head, 10, 64)
	e, failE := strconv.Atoi(tail)
	if !ok || failM != nil || failE != nil || m%2 == 0 || strconv.FormatInt(m, 10)+"p"+strconv.Itoa(e) != text {
		t.Fatalf("Text of %x is %q", f, text)
	}
	power := new(big.Rat).SetInt(new(big.Int).Lsh(big.NewInt(1), uint(max(e, -e))))
	if e < 0 {
		power.Inv(power)
	}
	if new(big.Rat).Mul(new(big.Rat).SetInt64(m), power).Cmp(new(big.Rat).SetFloat64(f)) != 0 {
		t.Errorf("Text of %x is %q", f, text)
	}
}

func TestP1TextOfAFloatIsThatFloat(t *testing.T) {
	s := sequence(4)
	for _, f := range edgeFloats() {
		if f != 0 && !math.IsInf(f, 0) {
			checkFloatText(t, f)
		}
	}
	for range 1000 {
		checkFloatText(t, s.anyFloat())
		checkFloatText(t, math.Float64frombits(s.next()>>12|1))
	}
}

func TestP1Key(t *testing.T) {
	for _, v := range validValues() {
		switch {
		case v.Kind == impl.KNil || isNaN(v):
			wantCode(t, "Key", impl.Key(v), impl.ErrKey)
		case v.Kind == impl.KFlt && side(v) == 0 && exact(v).IsInt() && exact(v).Num().IsInt64():
			wantValue(t, "Key", impl.Key(v), number(exact(v).Num().Int64()))
		default:
			wantValue(t, "Key", impl.Key(v), v)
		}
	}
	wantValue(t, "-0.0", impl.Key(float(minusZero)), number(0))
	wantValue(t, "-2^63", impl.Key(float(-(1 << 63))), number(leastInt))
	wantValue(t, "below 2^63", impl.Key(float(1<<63-1024)), number(1<<63-1024))
	wantValue(t, "2^63", impl.Key(float(1<<63)), float(1<<63))
	wantValue(t, "below -2^63", impl.Key(float(-(1<<63 + 2048))), float(-(1<<63 + 2048)))
	wantValue(t, "a half", impl.Key(float(-0.5)), float(-0.5))
	wantValue(t, "an infinity", impl.Key(float(math.Inf(1))), float(math.Inf(1)))
	wantValue(t, "false", impl.Key(boolean(0)), boolean(0))
}

func TestP1SameValuesHaveOneKey(t *testing.T) {
	for _, a := range orderable() {
		for _, b := range orderable() {
			if impl.Same(a, b) != (impl.Key(a) == impl.Key(b)) {
				t.Errorf("keys of %s and %s", show(a), show(b))
			}
		}
	}
}
