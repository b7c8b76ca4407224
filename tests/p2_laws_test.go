package tests

import (
	"testing"

	"loop.example/meaning/impl"
)

// orderable has numbers that lie close together where rounding could mix them
// up, and strings that begin one another.
func orderable() []impl.Value {
	vs := []impl.Value{str(""), str("\x00"), str("a"), str("a\x00"), str("ab"), str("b"), str("\xff"), str(long(impl.MaxStr)), str(long(impl.MaxStr - 1))}
	for _, n := range edgeInts() {
		vs = append(vs, number(n))
	}
	for _, f := range edgeFloats() {
		vs = append(vs, float(f))
	}
	return vs
}

func ofOneSort(a, b impl.Value) bool { return (a.Kind == impl.KStr) == (b.Kind == impl.KStr) }

func holds(op int, a, b impl.Value) bool { return impl.Truth(impl.Binary(op, a, b).Value) }

func TestP2ExactlyOneOfLessSameGreater(t *testing.T) {
	for _, a := range orderable() {
		for _, b := range orderable() {
			if !ofOneSort(a, b) {
				continue
			}
			n := 0
			for _, is := range []bool{holds(impl.OpLt, a, b), impl.Same(a, b), holds(impl.OpGt, a, b)} {
				if is {
					n++
				}
			}
			if n != 1 {
				t.Errorf("%d of less, same, greater hold for %s and %s", n, show(a), show(b))
			}
			if impl.Compare(a, b) != -impl.Compare(b, a) || (impl.Compare(a, b) == 0) != impl.Same(a, b) {
				t.Errorf("Compare of %s and %s", show(a), show(b))
			}
		}
	}
}

func TestP2LessIsHandedOn(t *testing.T) {
	vs := orderable()
	for _, a := range vs {
		for _, b := range vs {
			if !ofOneSort(a, b) || impl.Compare(a, b) > 0 {
				continue
			}
			for _, c := range vs {
				if ofOneSort(b, c) && impl.Compare(b, c) <= 0 && impl.Compare(a, c) != min(impl.Compare(a, b), impl.Compare(b, c)) {
					t.Errorf("%s, %s, %s", show(a), show(b), show(c))
				}
			}
		}
	}
}

func checkDivision(t *testing.T, a, b int64) {
	t.Helper()
	q, r := impl.Binary(impl.OpIDiv, number(a), number(b)), impl.Binary(impl.OpMod, number(a), number(b))
	if q.Code != 0 || r.Code != 0 {
		t.Fatalf("%d by %d: codes %d and %d", a, b, q.Code, r.Code)
	}
	back := impl.Binary(impl.OpAdd, impl.Binary(impl.OpMul, number(b), q.Value).Value, r.Value)
	wantValue(t, "b times OpIDiv and OpMod", back, number(a))
	rest := r.Value.Num
	if b > 0 && (rest < 0 || rest >= b) || b < 0 && (rest > 0 || rest <= b) {
		t.Errorf("%d mod %d is %d", a, b, rest)
	}
}

func TestP2QuotientAndRestMakeTheInt(t *testing.T) {
	for _, a := range edgeInts() {
		for _, b := range edgeInts() {
			if b != 0 {
				checkDivision(t, a, b)
			}
		}
	}
	for a := int64(-20); a <= 20; a++ {
		for b := int64(-20); b <= 20; b++ {
			if b != 0 {
				checkDivision(t, a, b)
			}
		}
	}
	s := sequence(5)
	for range 5000 {
		if b := s.anyInt(); b != 0 {
			checkDivision(t, s.anyInt(), b)
		}
	}
}
