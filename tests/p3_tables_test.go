package tests

import (
	"math"
	"math/big"
	"slices"
	"strconv"
	"testing"

	"loop.example/meaning/impl"
)

// The document's limits, written out.
const (
	maxPairs = 500
	maxTurns = 1000000000000
)

// list is a table told in the plainest way: no map, every question asked from
// the front.
type list struct {
	entries []entry
	turns   int
}

type entry struct {
	name     string
	key, val impl.Value
	turn     int
}

// named gives a key a name that no other key has; a float that is a whole
// number of an int's size has the int's name. Nothing for what is no key.
func named(k impl.Value) string {
	if !impl.ValueOk(k) {
		return ""
	}
	switch k.Kind {
	case impl.KNil:
		return ""
	case impl.KInt:
		return "number " + strconv.FormatInt(k.Num, 10)
	case impl.KFlt:
		return namedFloat(k.Flt)
	case impl.KStr:
		return "string " + k.Str
	}
	return strconv.Itoa(k.Kind) + " " + strconv.FormatInt(k.Num, 10) + " " + strconv.Itoa(k.Ref)
}

func namedFloat(f float64) string {
	switch {
	case math.IsNaN(f):
		return ""
	case math.IsInf(f, 0):
		return "float " + strconv.FormatFloat(f, 'g', -1, 64)
	}
	if n, accuracy := big.NewFloat(f).Int(nil); accuracy == big.Exact && n.IsInt64() {
		return "number " + n.String()
	}
	return "float " + strconv.FormatFloat(f, 'x', -1, 64)
}

func (l list) find(name string) int {
	return slices.IndexFunc(l.entries, func(e entry) bool { return e.name == name })
}

func (l list) put(k, v impl.Value) list {
	name := named(k)
	if name == "" || !impl.ValueOk(v) {
		return list{}
	}
	n := list{slices.Clone(l.entries), l.turns}
	i := l.find(name)
	switch {
	case v.Kind == impl.KNil && i >= 0:
		n.entries = append(n.entries[:i], n.entries[i+1:]...)
	case v.Kind == impl.KNil:
	case i >= 0:
		n.entries[i].val = v
	case len(n.entries) < maxPairs && n.turns < maxTurns:
		n.turns++
		n.entries = append(n.entries, entry{name, asKey(k), v, n.turns})
	}
	return n
}

// asKey is what stands in the pair: the int for a float with an int's name.
func asKey(k impl.Value) impl.Value {
	if k.Kind != impl.KFlt || namedFloat(k.Flt)[0] == 'f' {
		return k
	}
	n, _ := big.NewFloat(k.Flt).Int64()
	return number(n)
}

func (l list) get(k impl.Value) impl.Value {
	if i := l.find(named(k)); i >= 0 {
		return l.entries[i].val
	}
	return impl.Value{}
}

func (l list) after(turn int) impl.Found {
	for _, e := range l.entries {
		if e.turn > turn {
			return impl.Found{Found: true, Pair: impl.Pair{Key: e.key, Val: e.val, Turn: e.turn}}
		}
	}
	return impl.Found{}
}

func (l list) length() int {
	for n := 1; ; n++ {
		if l.find("number "+strconv.Itoa(n)) < 0 {
			return n - 1
		}
	}
}

func (l list) table() impl.Table {
	t := impl.Table{Turns: l.turns}
	for _, e := range l.entries {
		t.Pairs = append(t.Pairs, impl.Pair{Key: e.key, Val: e.val, Turn: e.turn})
	}
	return t
}

func samePairs(a, b impl.Pair) bool {
	return sameBits(a.Key, b.Key) && sameBits(a.Val, b.Val) && a.Turn == b.Turn
}

func sameTables(a, b impl.Table) bool {
	return a.Turns == b.Turns && slices.EqualFunc(a.Pairs, b.Pairs, samePairs)
}

func wantTable(t *testing.T, what string, got, want impl.Table) {
	t.Helper()
	if !sameTables(got, want) {
		t.Errorf("%s: got Turns %d and %s, want Turns %d and %s", what, got.Turns, showPairs(got), want.Turns, showPairs(want))
	}
}

// showPairs shows the pairs only of a table that is short.
func showPairs(t impl.Table) string {
	s := strconv.Itoa(len(t.Pairs)) + " pairs"
	if len(t.Pairs) > 12 {
		return s
	}
	for _, p := range t.Pairs {
		s += "; " + strconv.Itoa(p.Turn) + ": " + show(p.Key) + " " + show(p.Val)
	}
	return s
}

// holdAgainst asks a table everything and holds it against the list.
func holdAgainst(t *testing.T, what string, got impl.Table, l list, keys []impl.Value) {
	t.Helper()
	wantTable(t, what, got, l.table())
	if !impl.TableOk(got) {
		t.Errorf("%s: not valid", what)
	}
	if n := impl.Length(got); n != l.length() {
		t.Errorf("%s: Length %d, want %d", what, n, l.length())
	}
	for _, k := range keys {
		if v := impl.Get(got, k); !sameBits(v, l.get(k)) {
			t.Errorf("%s: Get at %s gives %s, want %s", what, show(k), show(v), show(l.get(k)))
		}
	}
	for turn := -1; turn <= l.turns+1; turn++ {
		wantAfter(t, what, got, turn, l.after(turn))
	}
}

func wantAfter(t *testing.T, what string, in impl.Table, turn int, want impl.Found) {
	t.Helper()
	if got := impl.After(in, turn); got.Found != want.Found || !samePairs(got.Pair, want.Pair) {
		t.Errorf("%s: After %d gives %v, want %v", what, turn, got, want)
	}
}

// rowKeys are few, so that a row meets each of them often: keys that are the
// same though they look different, and others that only look the same.
func rowKeys() []impl.Value {
	return []impl.Value{
		number(1), float(1), number(2), float(2), number(3), number(4), number(5), number(0), float(0), float(minusZero),
		float(1.5), float(-1.5), float(5e-324), float(-5e-324), float(math.Inf(1)), float(math.Inf(-1)), float(1 << 63), float(1<<63 + 2048), float(-1 << 63), number(leastInt), number(greatestInt), float(1<<63 - 1024), number(1<<63 - 1024),
		float(1 << 53), number(1 << 53), number(1<<53 + 1), float(-1<<63 - 2048),
		str(""), str("1"), str("\x001"), boolean(0), boolean(1), builtin(0), builtin(1),
		thing(impl.KTable, 0), thing(impl.KTable, 1), thing(impl.KFn, 1), thing(impl.KTask, 1),
		{Kind: impl.KInt, Num: 1, Flt: minusZero}, {Kind: impl.KStr, Str: "1", Flt: minusZero},
	}
}

func noKeys() []impl.Value {
	return append(invalidValues(), nilValue(), impl.Value{Flt: minusZero}, float(math.NaN()), float(math.Float64frombits(0xfff8000000000001)))
}

func rowValues() []impl.Value {
	return []impl.Value{
		nilValue(), nilValue(), {Flt: minusZero}, boolean(0), number(7), number(-7), float(math.NaN()), float(minusZero), float(2),
		str(""), str("value"), thing(impl.KTable, 3), thing(impl.KFn, 0), thing(impl.KTask, 2), builtin(2),
	}
}

func pick(s *sequence, from []impl.Value) impl.Value { return from[s.next()%uint64(len(from))] }

// nextPut draws a key and a value: a few keys most of the time, so that they
// come, go and come again; now and then what is no key or no value.
func nextPut(s *sequence, keys []impl.Value) (k, v impl.Value) {
	k, v = pick(s, keys), pick(s, rowValues())
	switch s.next() % 64 {
	case 0:
		k = pick(s, noKeys())
	case 1:
		v = pick(s, invalidValues())
	}
	return k, v
}

func TestP3RowsOfPutsAreTheList(t *testing.T) {
	for row := range 150 {
		s := sequence(row)
		keys := rowKeys()[:5+row%(len(rowKeys())-4)]
		if row%3 == 0 {
			slices.Reverse(keys)
		}
		tables, lists := []impl.Table{{}}, []list{{}}
		for step := range 60 {
			k, v := nextPut(&s, keys)
			tables = append(tables, impl.Put(tables[step], k, v))
			lists = append(lists, lists[step].put(k, v))
			holdAgainst(t, "row "+strconv.Itoa(row)+", step "+strconv.Itoa(step), tables[step+1], lists[step+1], append(rowKeys(), noKeys()...))
		}
		for i := range tables {
			wantTable(t, "row "+strconv.Itoa(row)+", table "+strconv.Itoa(i)+" at the end", tables[i], lists[i].table())
		}
		if t.Failed() {
			return
		}
	}
}

func TestP3EveryShortRow(t *testing.T) {
	keys := []impl.Value{number(1), float(2), str("1")}
	values := []impl.Value{nilValue(), number(1), number(2)}
	var grow func(table impl.Table, l list, left int)
	grow = func(table impl.Table, l list, left int) {
		holdAgainst(t, "a short row", table, l, keys)
		if left == 0 || t.Failed() {
			return
		}
		for _, k := range keys {
			for _, v := range values {
				grow(impl.Put(table, k, v), l.put(k, v), left-1)
			}
		}
	}
	grow(impl.Table{}, list{}, 5)
}

func TestP3KeyTakenOutComesLast(t *testing.T) {
	a := tableOf(str("x"), str("y"), str("z"))
	b := impl.Put(a, str("x"), nilValue())
	wantTable(t, "taken out", b, impl.Table{Pairs: a.Pairs[1:], Turns: 3})
	c := impl.Put(b, str("x"), number(9))
	wantTable(t, "put in again", c, impl.Table{Pairs: append(slices.Clone(a.Pairs[1:]), impl.Pair{Key: str("x"), Val: number(9), Turn: 4}), Turns: 4})
	wantAfter(t, "the first now", c, 0, impl.Found{Found: true, Pair: a.Pairs[1]})
	wantAfter(t, "the last now", c, 3, impl.Found{Found: true, Pair: impl.Pair{Key: str("x"), Val: number(9), Turn: 4}})

	empty := impl.Put(impl.Put(impl.Table{}, number(1), number(1)), number(1), nilValue())
	wantTable(t, "emptied", empty, impl.Table{Turns: 1})
	wantTable(t, "taken out twice", impl.Put(empty, number(1), nilValue()), impl.Table{Turns: 1})
}

func TestP3KeyThatIsThereKeepsItsPlace(t *testing.T) {
	a := tableOf(number(1), number(2), number(3))
	b := impl.Put(a, float(2), str("new"))
	want := impl.Table{Pairs: slices.Clone(a.Pairs), Turns: 3}
	want.Pairs[1].Val = str("new")
	wantTable(t, "the value alone", b, want)

	signed := impl.Value{Kind: impl.KInt, Num: 2, Flt: minusZero}
	wantTable(t, "the key as it stood", impl.Put(a, signed, str("new")), want)
}

func TestP3WholeFloatsAreInts(t *testing.T) {
	for _, c := range []struct {
		key  float64
		want impl.Value
	}{
		{0, number(0)}, {minusZero, number(0)}, {1, number(1)}, {-3, number(-3)}, {1 << 53, number(1 << 53)},
		{1<<63 - 1024, number(1<<63 - 1024)}, {-1 << 63, number(leastInt)},
		{1 << 63, float(1 << 63)}, {-1<<63 - 2048, float(-1<<63 - 2048)}, {0.5, float(0.5)}, {-1.5, float(-1.5)}, {math.Inf(1), float(math.Inf(1))},
	} {
		got := impl.Put(impl.Table{}, float(c.key), str("v"))
		wantTable(t, "key "+strconv.FormatFloat(c.key, 'g', -1, 64), got, impl.Table{Pairs: []impl.Pair{{Key: c.want, Val: str("v"), Turn: 1}}, Turns: 1})
		if impl.Get(got, c.want) != str("v") || impl.Get(got, float(c.key)) != str("v") {
			t.Errorf("key %g is not found again", c.key)
		}
		wantTable(t, "taken out", impl.Put(got, float(c.key), nilValue()), impl.Table{Turns: 1})
	}
}

func TestP3AnswersKeepTheSignsThatCame(t *testing.T) {
	key := impl.Value{Kind: impl.KStr, Str: "k", Flt: minusZero}
	val := impl.Value{Kind: impl.KBool, Num: 1, Flt: minusZero}
	got := impl.Put(impl.Table{}, key, val)
	wantTable(t, "as they came", got, impl.Table{Pairs: []impl.Pair{{Key: key, Val: val, Turn: 1}}, Turns: 1})
	if !impl.TableOk(got) || !sameBits(impl.Get(got, str("k")), val) {
		t.Error("a zero below 0 in a field that is not used")
	}
	wantAfter(t, "as they came", got, 0, impl.Found{Found: true, Pair: got.Pairs[0]})
	wantTable(t, "nil with such a zero", impl.Put(got, str("k"), impl.Value{Flt: minusZero}), impl.Table{Turns: 1})
}

func TestP3LengthStopsAtTheFirstGap(t *testing.T) {
	for _, c := range []struct {
		keys []impl.Value
		want int
	}{
		{nil, 0},
		{[]impl.Value{number(0)}, 0}, {[]impl.Value{number(2), number(3)}, 0}, {[]impl.Value{number(-1), number(0), number(1)}, 1},
		{[]impl.Value{number(3), number(1), number(2)}, 3}, {[]impl.Value{number(1), number(2), number(4)}, 2},
		{[]impl.Value{float(1), float(2)}, 2}, {[]impl.Value{number(1), float(1.5), number(2)}, 2},
		{[]impl.Value{str("1"), boolean(1), builtin(1), thing(impl.KTable, 1)}, 0},
		{[]impl.Value{{Kind: impl.KInt, Num: 1, Flt: minusZero}, number(2)}, 2},
		{[]impl.Value{number(1), number(greatestInt), number(leastInt)}, 1},
	} {
		if got := impl.Length(tableOf(c.keys...)); got != c.want {
			t.Errorf("Length with the keys %v: %d, want %d", c.keys, got, c.want)
		}
	}
	if got := impl.Length(numbered(1, maxPairs)); got != maxPairs {
		t.Errorf("Length of a full table: %d", got)
	}
	if got := impl.Length(impl.Put(numbered(1, maxPairs), number(250), nilValue())); got != 249 {
		t.Errorf("Length of a full table without 250: %d", got)
	}
}

func TestP3AfterAtFarTurns(t *testing.T) {
	a := impl.Table{Pairs: []impl.Pair{{Key: str("a"), Val: number(1), Turn: 5}, {Key: str("b"), Val: number(2), Turn: maxTurns}}, Turns: maxTurns}
	first, second := impl.Found{Found: true, Pair: a.Pairs[0]}, impl.Found{Found: true, Pair: a.Pairs[1]}
	for _, c := range []struct {
		turn int
		want impl.Found
	}{
		{math.MinInt, first}, {-1, first}, {0, first}, {4, first}, {5, second}, {6, second}, {maxTurns - 1, second},
		{maxTurns, impl.Found{}}, {maxTurns + 1, impl.Found{}}, {math.MaxInt, impl.Found{}},
	} {
		wantAfter(t, "far turns", a, c.turn, c.want)
	}
	wantAfter(t, "an empty table", impl.Table{Turns: 3}, 0, impl.Found{})
}

// tableOf puts true in at each key.
func tableOf(keys ...impl.Value) impl.Table {
	t := impl.Table{}
	for _, k := range keys {
		t = impl.Put(t, k, boolean(1))
	}
	return t
}

// numbered has the keys from .. to, written out without Put.
func numbered(from, to int) impl.Table {
	t := impl.Table{}
	for n := from; n <= to; n++ {
		t.Turns++
		t.Pairs = append(t.Pairs, impl.Pair{Key: number(int64(n)), Val: boolean(1), Turn: t.Turns})
	}
	return t
}
