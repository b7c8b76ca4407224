package impl

import (
	"cmp"
	"math"
	"math/bits"
	"strconv"
	"strings"
)

const (
	KNil = iota
	KBool
	KInt
	KFlt
	KStr
	KTable
	KFn
	KTask
	KBuiltin
)

const (
	OpAdd = iota + 1
	OpSub
	OpMul
	OpDiv
	OpIDiv
	OpMod
	OpAnd
	OpOr
	OpXor
	OpShl
	OpShr
	OpJoin
	OpEq
	OpNe
	OpLt
	OpLe
	OpGt
	OpGe
	OpNeg
	OpFlip
	OpNot
	OpLen
)

const (
	ErrType = iota + 1
	ErrZero
	ErrRange
	ErrLong
	ErrKey
	ErrCall
	ErrIndex
	ErrDepth
	ErrCells
	ErrTask
	ErrLoop
	ErrArgs
	ErrTicks
	ErrStep
	ErrUnit
)

const MaxStr = 4000

// What Compare answers.
const (
	less = iota - 1
	alike
	greater
	unordered
	apart
)

// pastInts is the least float above all ints; the least int is its opposite.
const pastInts = 1 << 63

// Value is a value of the language.
type Value struct {
	Kind int
	Num  int64
	Flt  float64
	Str  string
	Ref  int
}

// Valued is a value, or the code of an error.
type Valued struct {
	Code  int
	Value Value
}

// thing is what a valid Value stands for. Each sort has a type of its own, so
// that a field that the sort does not use can't be asked by mistake. A Value
// that is not valid stands for no thing: nil.
type thing interface {
	text() string
	value() Value
}

type (
	absent  struct{}
	flag    bool
	whole   int64
	float   float64
	word    string
	builtin int64
	made    struct{ kind, ref int }
)

func (absent) value() Value    { return Value{} }
func (n whole) value() Value   { return Value{Kind: KInt, Num: int64(n)} }
func (f float) value() Value   { return Value{Kind: KFlt, Flt: float64(f)} }
func (w word) value() Value    { return Value{Kind: KStr, Str: string(w)} }
func (b builtin) value() Value { return Value{Kind: KBuiltin, Num: int64(b)} }
func (m made) value() Value    { return Value{Kind: m.kind, Ref: m.ref} }

func (b flag) value() Value {
	if b {
		return Value{Kind: KBool, Num: 1}
	}
	return Value{Kind: KBool}
}

func (absent) text() string  { return "nil" }
func (b flag) text() string  { return strconv.FormatBool(bool(b)) }
func (n whole) text() string { return strconv.FormatInt(int64(n), 10) }
func (w word) text() string  { return string(w) }
func (builtin) text() string { return "builtin" }

func (m made) text() string {
	switch m.kind {
	case KTable:
		return "table"
	case KFn:
		return "fn"
	}
	return "task"
}

func (f float) text() string {
	x := float64(f)
	switch {
	case math.IsNaN(x):
		return "nan"
	case math.IsInf(x, 1):
		return "inf"
	case math.IsInf(x, -1):
		return "-inf"
	case x == 0 && math.Signbit(x):
		return "-0p0"
	case x == 0:
		return "0p0"
	}
	return oddTimesPower(x)
}

// oddTimesPower writes a finite float that is not 0. Frexp evens out the
// floats below the normal ones, so 53 bits hold every fraction exactly.
func oddTimesPower(x float64) string {
	fraction, exponent := math.Frexp(x)
	m := int64(fraction * (1 << 53))
	zeros := bits.TrailingZeros64(uint64(m))
	return strconv.FormatInt(m>>zeros, 10) + "p" + strconv.Itoa(exponent-53+zeros)
}

// thingOf is the one place where it is decided whether a value is valid.
func thingOf(v Value) thing {
	if !unusedEmpty(v) {
		return nil
	}
	switch v.Kind {
	case KNil:
		return absent{}
	case KBool:
		if v.Num == 0 || v.Num == 1 {
			return flag(v.Num == 1)
		}
	case KInt:
		return whole(v.Num)
	case KFlt:
		return float(v.Flt)
	case KStr:
		if len(v.Str) <= MaxStr {
			return word(v.Str)
		}
	case KTable, KFn, KTask:
		if v.Ref >= 0 {
			return made{v.Kind, v.Ref}
		}
	case KBuiltin:
		if v.Num >= 0 && v.Num < Builtins {
			return builtin(v.Num)
		}
	}
	return nil
}

// unusedEmpty tells whether the fields that the kind of v does not use are 0
// or empty; v is a copy, so those that it uses can be emptied first.
func unusedEmpty(v Value) bool {
	switch v.Kind {
	case KBool, KInt, KBuiltin:
		v.Num = 0
	case KFlt:
		v.Flt = 0
	case KStr:
		v.Str = ""
	case KTable, KFn, KTask:
		v.Ref = 0
	}
	return v.Num == 0 && v.Flt == 0 && v.Str == "" && v.Ref == 0
}

func failed(code int) Valued { return Valued{Code: code} }

func gives(t thing) Valued { return Valued{Value: t.value()} }

// ValueOk tells whether v is valid.
func ValueOk(v Value) bool { return thingOf(v) != nil }

// Truth is false for nil, false and what is not valid.
func Truth(v Value) bool { return truthOf(thingOf(v)) }

func truthOf(t thing) bool {
	switch x := t.(type) {
	case nil, absent:
		return false
	case flag:
		return bool(x)
	}
	return true
}

// Same tells whether two valid values are the same for the language.
func Same(a, b Value) bool { return sameThing(thingOf(a), thingOf(b)) }

func sameThing(a, b thing) bool {
	switch order(a, b) {
	case alike:
		return true
	case apart:
		return a != nil && a == b
	}
	return false
}

// Compare orders two numbers or two strings: -1, 0, 1, or 2 beside a NaN; 3
// for all else.
func Compare(a, b Value) int { return order(thingOf(a), thingOf(b)) }

func order(a, b thing) int {
	switch x := a.(type) {
	case whole:
		return orderWhole(x, b)
	case float:
		return orderFloat(x, b)
	case word:
		if y, ok := b.(word); ok {
			return strings.Compare(string(x), string(y))
		}
	}
	return apart
}

func orderWhole(n whole, b thing) int {
	switch y := b.(type) {
	case whole:
		return cmp.Compare(n, y)
	case float:
		return orderMixed(n, y)
	}
	return apart
}

func orderFloat(f float, b thing) int {
	switch y := b.(type) {
	case whole:
		return turnedAround(orderMixed(y, f))
	case float:
		return orderFloats(float64(f), float64(y))
	}
	return apart
}

func orderFloats(x, y float64) int {
	if math.IsNaN(x) || math.IsNaN(y) {
		return unordered
	}
	return cmp.Compare(x, y)
}

// orderMixed goes by the float's floor: an int made a float would be rounded.
func orderMixed(n whole, f float) int {
	x := float64(f)
	switch {
	case math.IsNaN(x):
		return unordered
	case x >= pastInts:
		return less
	case x < -pastInts:
		return greater
	}
	floor := math.Floor(x)
	if c := cmp.Compare(int64(n), int64(floor)); c != alike {
		return c
	}
	if x > floor {
		return less
	}
	return alike
}

func turnedAround(c int) int {
	if c == less || c == greater {
		return -c
	}
	return c
}

// Binary carries out one of the operations 1 .. 18.
func Binary(op int, a, b Value) Valued {
	x, y := thingOf(a), thingOf(b)
	if x == nil || y == nil {
		return failed(ErrType)
	}
	switch op {
	case OpAdd, OpSub, OpMul, OpDiv, OpIDiv, OpMod:
		return arithmetic(op, x, y)
	case OpAnd, OpOr, OpXor, OpShl, OpShr:
		return bitwise(op, x, y)
	case OpJoin:
		return join(x, y)
	case OpEq:
		return gives(flag(sameThing(x, y)))
	case OpNe:
		return gives(flag(!sameThing(x, y)))
	case OpLt, OpLe, OpGt, OpGe:
		return ordered(op, order(x, y))
	}
	return failed(ErrType)
}

func arithmetic(op int, x, y thing) Valued {
	if m, n, ok := twoWholes(x, y); ok {
		return wholeArithmetic(op, m, n)
	}
	f, ok := floatOf(x)
	g, also := floatOf(y)
	if !ok || !also {
		return failed(ErrType)
	}
	return gives(float(floatArithmetic(op, f, g)))
}

func twoWholes(x, y thing) (m, n int64, ok bool) {
	a, first := x.(whole)
	b, second := y.(whole)
	if !first || !second {
		return 0, 0, false
	}
	return int64(a), int64(b), true
}

func floatOf(t thing) (float64, bool) {
	switch x := t.(type) {
	case whole:
		return float64(x), true
	case float:
		return float64(x), true
	}
	return 0, false
}

func wholeArithmetic(op int, m, n int64) Valued {
	switch op {
	case OpAdd:
		return gives(whole(m + n))
	case OpSub:
		return gives(whole(m - n))
	case OpMul:
		return gives(whole(m * n))
	case OpDiv:
		return gives(float(float64(m) / float64(n)))
	}
	if n == 0 {
		return failed(ErrZero)
	}
	if op == OpIDiv {
		return gives(whole(floorDivide(m, n)))
	}
	return gives(whole(m - n*floorDivide(m, n)))
}

// floorDivide needs no guard for the least int by -1: Go's quotient wraps.
func floorDivide(m, n int64) int64 {
	q := m / n
	if m%n != 0 && (m < 0) != (n < 0) {
		q--
	}
	return q
}

func floatArithmetic(op int, f, g float64) float64 {
	switch op {
	case OpAdd:
		return f + g
	case OpSub:
		return f - g
	case OpMul:
		return f * g
	case OpDiv:
		return f / g
	case OpIDiv:
		return math.Floor(f / g)
	}
	// The conversion keeps a machine from rounding product and difference as one.
	return f - float64(math.Floor(f/g)*g)
}

func bitwise(op int, x, y thing) Valued {
	m, n, ok := twoWholes(x, y)
	if !ok {
		return failed(ErrType)
	}
	switch op {
	case OpAnd:
		return gives(whole(m & n))
	case OpOr:
		return gives(whole(m | n))
	case OpXor:
		return gives(whole(m ^ n))
	}
	if n < 0 {
		return failed(ErrRange)
	}
	if op == OpShl {
		return gives(whole(m << uint64(n)))
	}
	return gives(whole(uint64(m) >> uint64(n)))
}

func join(x, y thing) Valued {
	if !joins(x) || !joins(y) {
		return failed(ErrType)
	}
	both := x.text() + y.text()
	if len(both) > MaxStr {
		return failed(ErrLong)
	}
	return gives(word(both))
}

func joins(t thing) bool {
	switch t.(type) {
	case whole, float, word:
		return true
	}
	return false
}

func ordered(op, c int) Valued {
	if c == apart {
		return failed(ErrType)
	}
	switch op {
	case OpLt:
		return gives(flag(c == less))
	case OpLe:
		return gives(flag(c == less || c == alike))
	case OpGt:
		return gives(flag(c == greater))
	}
	return gives(flag(c == greater || c == alike))
}

// Unary carries out one of the operations 19 .. 22.
func Unary(op int, v Value) Valued {
	t := thingOf(v)
	switch {
	case t == nil:
		return failed(ErrType)
	case op == OpNeg:
		return negate(t)
	case op == OpFlip:
		return flip(t)
	case op == OpNot:
		return gives(flag(!truthOf(t)))
	case op == OpLen:
		return length(t)
	}
	return failed(ErrType)
}

func negate(t thing) Valued {
	switch x := t.(type) {
	case whole:
		return gives(-x)
	case float:
		return gives(-x)
	}
	return failed(ErrType)
}

func flip(t thing) Valued {
	if n, ok := t.(whole); ok {
		return gives(^n)
	}
	return failed(ErrType)
}

func length(t thing) Valued {
	if w, ok := t.(word); ok {
		return gives(whole(len(w)))
	}
	return failed(ErrType)
}

// Text is how a value is written; nothing when it is not valid.
func Text(v Value) string {
	if t := thingOf(v); t != nil {
		return t.text()
	}
	return ""
}

// Key is what a value is as a key of a table.
func Key(v Value) Valued { return keyOf(v, thingOf(v)) }

func keyOf(v Value, t thing) Valued {
	switch x := t.(type) {
	case nil:
		return failed(ErrType)
	case absent:
		return failed(ErrKey)
	case float:
		return floatKey(float64(x))
	}
	// As it came: a zero in a Flt that is not used keeps its sign.
	return Valued{Value: v}
}

func floatKey(f float64) Valued {
	switch {
	case math.IsNaN(f):
		return failed(ErrKey)
	case f >= -pastInts && f < pastInts && f == math.Floor(f):
		return gives(whole(f))
	}
	return gives(float(f))
}
