package tests

import (
	"fmt"
	"math/big"
	"regexp"
	"strings"

	"loop.example/meaning/impl"
)

const maxTold = 1000000

func toldText(s string) string { return fmt.Sprintf("%d %s", len(s), s) }

// modelTell knows of no limit.
func modelTell(r impl.Report) string {
	var b strings.Builder
	fmt.Fprintf(&b, "%d %d %d %d ", r.Code, r.Ticks, r.Made, len(r.Recs))
	for _, x := range r.Recs {
		fmt.Fprintf(&b, "%d %d %d %d %s", x.Kind, x.Task, x.Fn, x.Line, toldText(x.Text))
	}
	fmt.Fprintf(&b, "%d ", len(r.Vals))
	for _, s := range r.Vals {
		b.WriteString(toldText(s))
	}
	b.WriteString(toldText(r.Error) + toldText(r.Trace))
	return b.String()
}

var toldNumber = regexp.MustCompile(`^(0|-?[1-9][0-9]*) `)

// modelHearer takes numbers in the one form in which they are told.
type modelHearer struct {
	rest string
	bad  bool
}

func (h *modelHearer) number() int {
	found := toldNumber.FindStringSubmatch(h.rest)
	if found == nil {
		h.bad = true
		return 0
	}
	n, _ := new(big.Int).SetString(found[1], 10)
	h.bad = h.bad || !n.IsInt64()
	h.rest = h.rest[len(found[0]):]
	return int(n.Int64())
}

func (h *modelHearer) text() string {
	n := h.number()
	if h.bad || n < 0 || n > len(h.rest) {
		h.bad = true
		return ""
	}
	s := h.rest[:n]
	h.rest = h.rest[n:]
	return s
}

// times is for lists; one that has below 0 elements is bad.
func (h *modelHearer) times(do func()) {
	n := h.number()
	h.bad = h.bad || n < 0
	for ; n > 0 && !h.bad; n-- {
		do()
	}
}

// modelHear gives the zero value too where it is what was told; heard says
// whether anything was.
func modelHear(b string) (r impl.Report, heard bool) {
	h := &modelHearer{rest: b}
	r.Code = h.number()
	r.Ticks = h.number()
	r.Made = h.number()
	h.times(func() {
		var x impl.Rec
		x.Kind = h.number()
		x.Task = h.number()
		x.Fn = h.number()
		x.Line = h.number()
		x.Text = h.text()
		r.Recs = append(r.Recs, x)
	})
	h.times(func() { r.Vals = append(r.Vals, h.text()) })
	r.Error = h.text()
	r.Trace = h.text()
	if h.bad || h.rest != "" || len(b) > maxTold {
		return impl.Report{}, false
	}
	return r, true
}
