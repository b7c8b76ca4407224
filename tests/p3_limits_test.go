package tests

import (
	"math"
	"slices"
	"strconv"
	"testing"

	"loop.example/meaning/impl"
)

func pairAt(turn int, key, val impl.Value) impl.Pair {
	return impl.Pair{Key: key, Val: val, Turn: turn}
}

func ofPairs(turns int, pairs ...impl.Pair) impl.Table {
	return impl.Table{Pairs: pairs, Turns: turns}
}

// goodTables has tables that are valid and stand at an edge of it.
func goodTables() []impl.Table {
	one, two, v := number(1), number(2), boolean(0)
	tables := []impl.Table{
		{}, {Pairs: []impl.Pair{}}, ofPairs(maxTurns), ofPairs(7),
		ofPairs(1, pairAt(1, one, v)), ofPairs(2, pairAt(1, one, v), pairAt(2, two, v)),
		ofPairs(9, pairAt(3, two, v), pairAt(8, one, v)), ofPairs(maxTurns, pairAt(maxTurns-1, one, v), pairAt(maxTurns, two, v)),
		ofPairs(1, pairAt(1, impl.Value{Kind: impl.KInt, Num: 1, Flt: minusZero}, v)),
		ofPairs(1, pairAt(1, one, float(math.NaN()))), ofPairs(1, pairAt(1, one, float(minusZero))),
		ofPairs(1, pairAt(1, str(long(impl.MaxStr)), str(long(impl.MaxStr)))),
		ofPairs(6, pairAt(1, one, v), pairAt(2, boolean(1), v), pairAt(3, builtin(1), v), pairAt(4, thing(impl.KTable, 1), v), pairAt(5, thing(impl.KFn, 1), v), pairAt(6, thing(impl.KTask, 1), v)),
		ofPairs(6, pairAt(1, str("1"), v), pairAt(2, float(1.5), v), pairAt(3, float(-1.5), v), pairAt(4, float(1<<63), v), pairAt(5, number(greatestInt), v), pairAt(6, float(math.Inf(-1)), v)),
		numbered(1, maxPairs),
	}
	for _, k := range validValues() {
		if key := impl.Key(k); key.Code == 0 && key.Value.Kind == k.Kind {
			tables = append(tables, ofPairs(1, pairAt(1, k, k)))
		}
	}
	return tables
}

// badTables has every way in which a table is not valid.
func badTables() []impl.Table {
	one, two, v := number(1), number(2), boolean(0)
	good := pairAt(1, one, v)
	tables := []impl.Table{
		ofPairs(-1), ofPairs(math.MinInt), ofPairs(maxTurns + 1), ofPairs(math.MaxInt), ofPairs(maxTurns+1, good), ofPairs(-1, good), ofPairs(0, good),
		ofPairs(1, pairAt(0, one, v)), ofPairs(1, pairAt(-1, one, v)), ofPairs(1, pairAt(2, one, v)), ofPairs(1, good, pairAt(2, two, v)),
		ofPairs(maxTurns, pairAt(maxTurns+1, one, v)), ofPairs(9, pairAt(math.MinInt, one, v)), ofPairs(9, pairAt(math.MaxInt, one, v)),
		ofPairs(9, good, pairAt(1, two, v)), ofPairs(9, pairAt(2, one, v), pairAt(1, two, v)), ofPairs(9, pairAt(1, one, v), pairAt(3, two, v), pairAt(2, str("c"), v)),
		ofPairs(9, good, pairAt(2, one, v)), ofPairs(9, good, pairAt(2, two, v), pairAt(3, one, boolean(1))),
		ofPairs(9, good, pairAt(2, impl.Value{Kind: impl.KInt, Num: 1, Flt: minusZero}, v)),
		ofPairs(9, pairAt(1, float(0.5), v), pairAt(2, float(0.5), v)), ofPairs(9, pairAt(1, str("a"), v), pairAt(2, str("a"), v)), ofPairs(9, pairAt(1, thing(impl.KFn, 4), v), pairAt(2, thing(impl.KFn, 4), v)),
		ofPairs(1, pairAt(1, one, nilValue())), ofPairs(1, pairAt(1, one, impl.Value{Flt: minusZero})), ofPairs(2, good, pairAt(2, two, nilValue())),
		ofPairs(1, pairAt(1, float(1), v)), ofPairs(1, pairAt(1, float(0), v)), ofPairs(1, pairAt(1, float(minusZero), v)), ofPairs(1, pairAt(1, float(-1<<63), v)), ofPairs(1, pairAt(1, float(1<<53), v)),
		numbered(1, maxPairs+1), numbered(1, 3000),
	}
	for _, k := range noKeys() {
		tables = append(tables, ofPairs(1, pairAt(1, k, v)), ofPairs(2, good, pairAt(2, k, v)))
	}
	for _, bad := range invalidValues() {
		tables = append(tables, ofPairs(1, pairAt(1, one, bad)), ofPairs(2, good, pairAt(2, two, bad)))
	}
	farApart := numbered(1, maxPairs)
	farApart.Pairs[maxPairs-1].Key = number(1)
	return append(tables, farApart)
}

func TestP3TableOk(t *testing.T) {
	for i, c := range goodTables() {
		if !impl.TableOk(c) {
			t.Errorf("table %d is valid: Turns %d, %s", i, c.Turns, showPairs(c))
		}
	}
	for i, c := range badTables() {
		if impl.TableOk(c) {
			t.Errorf("table %d is not valid: Turns %d, %s", i, c.Turns, showPairs(c))
		}
	}
}

func TestP3NothingFromTablesThatAreNotValid(t *testing.T) {
	for i, c := range badTables() {
		what := "table " + strconv.Itoa(i)
		for _, k := range []impl.Value{number(1), number(2), float(1), str("a"), nilValue()} {
			if v := impl.Get(c, k); !sameBits(v, impl.Value{}) {
				t.Errorf("%s: Get gives %s", what, show(v))
			}
			for _, v := range []impl.Value{number(1), nilValue(), {Num: 1}} {
				wantTable(t, what+": Put", impl.Put(c, k, v), impl.Table{})
			}
		}
		for _, turn := range []int{math.MinInt, 0, 1, 2} {
			wantAfter(t, what, c, turn, impl.Found{})
		}
		if n := impl.Length(c); n != 0 {
			t.Errorf("%s: Length %d", what, n)
		}
	}
}

func TestP3NothingForKeysAndValuesThatAreNotValid(t *testing.T) {
	for _, table := range []impl.Table{{}, {Turns: 5}, numbered(1, 3), numbered(1, maxPairs)} {
		for _, k := range noKeys() {
			if v := impl.Get(table, k); !sameBits(v, impl.Value{}) {
				t.Errorf("Get at %s gives %s", show(k), show(v))
			}
			for _, v := range []impl.Value{number(1), nilValue(), {Num: 1}} {
				wantTable(t, "Put at "+show(k), impl.Put(table, k, v), impl.Table{})
			}
		}
		for _, v := range invalidValues() {
			for _, k := range []impl.Value{number(1), number(-1), float(2), str("a")} {
				wantTable(t, "Put of "+show(v), impl.Put(table, k, v), impl.Table{})
			}
		}
	}
}

func TestP3FullTable(t *testing.T) {
	almost, full := numbered(1, maxPairs-1), numbered(1, maxPairs)
	wantTable(t, "the last pair that fits", impl.Put(almost, number(maxPairs), boolean(1)), full)
	for _, k := range []impl.Value{number(0), number(maxPairs + 1), float(1.5), str("1"), boolean(1)} {
		wantTable(t, "a new key", impl.Put(full, k, number(9)), full)
		wantTable(t, "a key that is not there taken out", impl.Put(full, k, nilValue()), full)
	}
	for _, k := range []impl.Value{number(1), float(250), number(maxPairs)} {
		want := impl.Table{Pairs: slices.Clone(full.Pairs), Turns: full.Turns}
		place := int(asKey(k).Num) - 1
		want.Pairs[place].Val = str("new")
		wantTable(t, "a key that is there", impl.Put(full, k, str("new")), want)

		without := impl.Put(full, k, nilValue())
		wantTable(t, "taken out", without, impl.Table{Pairs: slices.Delete(slices.Clone(full.Pairs), place, place+1), Turns: full.Turns})
		again := impl.Put(without, k, boolean(1))
		wantAfter(t, "room again", again, full.Turns, impl.Found{Found: true, Pair: pairAt(full.Turns+1, asKey(k), boolean(1))})
		wantTable(t, "full again", impl.Put(again, str("more"), number(1)), again)
	}
}

func TestP3LastTurn(t *testing.T) {
	pair := pairAt(4, str("a"), number(1))
	before, at := ofPairs(maxTurns-1, pair), ofPairs(maxTurns, pair)
	wantTable(t, "the last coming", impl.Put(before, str("b"), number(2)), ofPairs(maxTurns, pair, pairAt(maxTurns, str("b"), number(2))))
	wantTable(t, "one coming more", impl.Put(at, str("b"), number(2)), at)
	wantTable(t, "one coming more to an empty table", impl.Put(ofPairs(maxTurns), str("b"), number(2)), ofPairs(maxTurns))
	wantTable(t, "a key that is there", impl.Put(at, str("a"), number(2)), ofPairs(maxTurns, pairAt(4, str("a"), number(2))))
	wantTable(t, "taken out", impl.Put(at, str("a"), nilValue()), ofPairs(maxTurns))
}

// TestP3AnswersAreNewMemory gives Put a list with room behind it and writes
// over every answer.
func TestP3AnswersAreNewMemory(t *testing.T) {
	for _, c := range []struct {
		table impl.Table
		k, v  impl.Value
	}{
		{numbered(1, 4), number(9), number(1)}, {numbered(1, 4), number(2), number(1)}, {numbered(1, 4), number(2), nilValue()}, {numbered(1, 4), number(9), nilValue()},
		{numbered(1, maxPairs), number(-1), number(1)}, {numbered(1, maxPairs), number(1), nilValue()},
		{ofPairs(maxTurns, pairAt(1, str("a"), number(1))), str("b"), number(1)},
		{numbered(1, 4), nilValue(), number(1)}, {numbered(1, 4), number(1), impl.Value{Num: 1}},
	} {
		behind := pairAt(77, str("behind"), str("behind"))
		n := len(c.table.Pairs)
		room := append(slices.Clone(c.table.Pairs), behind, behind)
		given := impl.Table{Pairs: room[:n], Turns: c.table.Turns}

		got := impl.Put(given, c.k, c.v)
		impl.Get(given, c.k)
		impl.After(given, 0)
		impl.Length(given)
		impl.TableOk(given)
		for i := range got.Pairs[:cap(got.Pairs)] {
			got.Pairs[:cap(got.Pairs)][i] = impl.Pair{}
		}
		wantTable(t, "the argument", given, c.table)
		if room[n] != behind || room[n+1] != behind {
			t.Errorf("written behind the argument's pairs")
		}
	}
}
