package tests

import (
	"testing"

	"loop.example/meaning/impl"
)

// anyText is short, and holds much of what could be taken for a number.
func anyText(s *sequence) string {
	b := make([]byte, s.next()%6)
	for i := range b {
		b[i] = "0123 -+a\xff\n"[s.next()%10]
	}
	return string(b)
}

func anyReport(s *sequence) impl.Report {
	n := func() int { return int(s.anyInt()) }
	r := impl.Report{Code: n(), Ticks: n(), Made: n(), Error: anyText(s), Trace: anyText(s)}
	for range s.next() % 4 {
		r.Recs = append(r.Recs, impl.Rec{Kind: n(), Task: n(), Fn: n(), Line: n(), Text: anyText(s)})
	}
	for range s.next() % 4 {
		r.Vals = append(r.Vals, anyText(s))
	}
	return r
}

// spoilBytes changes one byte, takes one out or puts one in.
func spoilBytes(s *sequence, told string) string {
	at := int(s.next() % uint64(len(told)))
	put := string("0123456789 -+a"[s.next()%14])
	switch s.next() % 3 {
	case 0:
		return told[:at] + put + told[at+1:]
	case 1:
		return told[:at] + told[at+1:]
	}
	return told[:at] + put + told[at:]
}

func TestP15AnyReport(t *testing.T) {
	s := sequence(15)
	for range 5000 {
		r := anyReport(&s)
		wantTold(t, r, modelTell(r))
	}
}

// Bytes that are nearly what is told give what the model hears in them: mostly
// nothing.
func TestP15AnyBytes(t *testing.T) {
	s := sequence(1515)
	heardAny := 0
	for range 40000 {
		b := spoilBytes(&s, modelTell(anyReport(&s)))
		want, heard := modelHear(b)
		if heard {
			heardAny++
			wantTold(t, want, b)
		} else {
			wantUnheard(t, b)
		}
	}
	if heardAny == 0 {
		t.Error("none of the bytes was told of another report")
	}
}

// What runs tell is heard again.
func TestP15Runs(t *testing.T) {
	s := sequence(151515)
	for range 300 {
		r := impl.Run(unitFrom(writeText(&s)), inputFor(&s))
		wantTold(t, r, modelTell(r))
	}
	refused := impl.Run(impl.Unit{}, lots())
	wantTold(t, refused, "3 0 0 0 0 0 0 ")
}
