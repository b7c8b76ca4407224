package tests

import (
	"fmt"
	"strings"
	"testing"
)

func TestP14LongLists(t *testing.T) {
	for k := 1; k <= 90; k++ {
		for n := 1; n <= 8; n++ {
			ones := strings.Repeat("1, ", k)
			u := unitFrom(`let f = fn f(...) { return ` + ones + `... } return ` + strings.Repeat("f(", n) + strings.Repeat(")", n))
			r := run(t, u, lots())
			if n*k <= maxList {
				want := strings.TrimSpace(strings.Repeat("1 ", n*k))
				if r.Code != 0 || strings.Join(r.Vals, " ") != want {
					t.Errorf("%d ones, %d times: code %d, %d values", k, n, r.Code, len(r.Vals))
				}
				continue
			}
			// As many calls end as give lists that are not too long.
			if r.Code != 1 || r.Error != "error 4" || r.Trace != "f:1 main:1" || len(r.Vals) != 0 || len(printed(r)) != 0 {
				t.Errorf("%d ones, %d times: code %d, %s at %s", k, n, r.Code, r.Error, r.Trace)
			}
			if calls := strings.Count(told(r), "call 0.1"); calls != maxList/k+1 {
				t.Errorf("%d ones, %d times: %d calls", k, n, calls)
			}
		}
	}
}

// As arguments that are put ahead, the same.
func TestP14Arguments(t *testing.T) {
	for _, k := range []int{1, 49, 50, 51, 90} {
		text := fmt.Sprintf(`let count = fn(...) { return #{1: *...} }
			let f = fn(...) { return ... }
			let g = fn(...) { return f(%s ...) }
			return count(g(g(g(g(g())))))`, strings.Repeat("1, ", k))
		r := run(t, unitFrom(text), lots())
		if 5*k <= maxList && (r.Code != 0 || r.Vals[0] != fmt.Sprint(5*k)) || 5*k > maxList && r.Error != "error 4" {
			t.Errorf("%d ones: %s", k, told(r))
		}
	}
}
