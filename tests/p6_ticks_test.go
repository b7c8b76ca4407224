package tests

import (
	"fmt"
	"slices"
	"testing"

	"loop.example/meaning/impl"
)

// wantCutShort asks, of a run with all its ticks, what it is with fewer.
func wantCutShort(t *testing.T, what string, u impl.Unit, in impl.Input, step int) {
	t.Helper()
	whole := impl.Run(u, in)
	for ticks := 0; ticks < whole.Ticks; ticks += step {
		in.Ticks = ticks
		r := impl.Run(u, in)
		first := len(r.Recs) <= len(whole.Recs) && slices.Equal(r.Recs, whole.Recs[:len(r.Recs)])
		if r.Code != 2 || r.Ticks != ticks || !first || r.Made > whole.Made || len(r.Vals) > 0 || r.Error != "" || r.Trace != "" {
			t.Fatalf("%s: with %d of %d ticks\n%s\nwith all of them\n%s", what, ticks, whole.Ticks, told(r), told(whole))
		}
	}
	// Met exactly, the allowance is enough.
	if in.Ticks = whole.Ticks; whole.Code != 2 {
		if r := impl.Run(u, in); !sameReport(r, whole) {
			t.Fatalf("%s: with just the ticks that it uses\n%s\nwith more\n%s", what, told(r), told(whole))
		}
	}
}

// Of texts in which everything is used, at every tick.
func TestP6EveryTick(t *testing.T) {
	for _, text := range []string{
		`let t = {} for i = 1, 3, 1 { t[i] = "a" .. i } each k, v in t { print(k, v) } while #t > 0 { t[#t] = nil }`,
		`let f f = fn(n) { defer print(n) if n == 0 { throw "x" } f(n - 1) } try { f(3) } catch e, s { print(e, s) } throw 1`,
		`let t = task(fn(a) { defer print("d") try { yield(a) throw a } catch e, s { print(e) yield() } })
		 resume(t, 1) resume(t) print(giveup(t)) let u = task(fn() { throw 1 }) print(resume(u))`,
		`let k = {last: fn(t) { print(t.n) throw 1 }, weak: "k"} setkind({n: 1}, k) setkind({n: 2}, k) print(collect(), cells())`,
		`let t = setkind({}, {index: fn(t, k) { return k .. "!" }, add: fn() { return 1 }, call: print, each: fn() { return read }})
		 print(t.x, t + 1) t(1) each l in t { print(l) } return t.y`,
	} {
		in := lots()
		in.Lines = []string{"a", "b"}
		wantCutShort(t, text, unitFrom(text), in, 1)
	}
}

// Of texts that are written by chance.
func TestP6AnyText(t *testing.T) {
	s := sequence(6)
	for i := range 120 {
		text := writeText(&s)
		in := inputFor(&s)
		in.Ticks = maxTicks
		u := unitFrom(text)
		wantCutShort(t, fmt.Sprintf("text %d\n%s", i, text), u, in, 1+impl.Run(u, in).Ticks/40)
	}
}

// The greatest allowance can be used up.
func TestP6MostTicks(t *testing.T) {
	u := unitFrom(`while true { }`)
	if r := run(t, u, lots()); r.Code != 2 || r.Ticks != maxTicks || len(r.Recs) != 1 {
		t.Errorf("code %d, %d ticks, %d records", r.Code, r.Ticks, len(r.Recs))
	}
	u = unitFrom(`let i = 0 while i < 1666 { i = i + 1 } return i`)
	r := run(t, u, lots())
	if r.Code != 0 || r.Ticks != 1+1+1666*2+1+1 || len(r.Vals) != 1 || r.Vals[0] != "1666" {
		t.Errorf("code %d, %d ticks, %v", r.Code, r.Ticks, r.Vals)
	}
	// Records of all kinds, as many as the ticks allow, and still far from MaxRecs.
	u = unitFrom(`let f = fn() { throw 1 } while true { try { f() } catch e, s { } }`)
	if r := run(t, u, lots()); r.Code != 2 || len(r.Recs) < maxTicks || len(r.Recs) > 4*maxTicks {
		t.Errorf("code %d, %d records", r.Code, len(r.Recs))
	}
}
