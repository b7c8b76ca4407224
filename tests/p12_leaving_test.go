package tests

import "testing"

// RecThrow comes ahead of any leaving; RecCatch when all inside is left, and the
// variables of the NTry are not made yet.
func TestP12Errors(t *testing.T) {
	wantViews(t, `let a = 1
		try {
		  let b = 2
		  {
		    let c = 3
		    throw "bad"
		  }
		} catch e, s {
		  let d = 4
		  print(d)
		}
		print(a)`, lots(), `
		line: task 0, 0:1
		line: task 0, 0:2 a=1
		line: task 0, 0:3 a=1
		line: task 0, 0:5 a=1 b=2
		line: task 0, 0:6 a=1 b=2 c=3
		throw bad: task 0, 0:6 a=1 b=2 c=3
		catch bad: task 0, 0:2 a=1
		line: task 0, 0:9 a=1 e=bad s=main:6
		line: task 0, 0:10 a=1 e=bad s=main:6 d=4
		print 4: task 0, 0:10 a=1 e=bad s=main:6 d=4
		line: task 0, 0:12 a=1
		print 1: task 0, 0:12 a=1`)
	wantViews(t, `let f = fn f(a) {
		  let b = a
		  { let c = 1
		    print(b + nil)
		  }
		}
		let g = fn g(x) {
		  try {
		    let y = x
		    f(y)
		  } catch e, s { print(s) }
		  x = nil + x
		}
		try {
		  let z = g(1)
		} catch e, s {
		}
		f(2)`, lots(), `
		line: task 0, 0:1
		line: task 0, 0:7 f=fn
		line: task 0, 0:14 f=fn g=fn
		line: task 0, 0:15 f=fn g=fn
		call g: task 0, 2:0 x=1, 0:15 f=fn g=fn
		line: task 0, 2:8 x=1, 0:15 f=fn g=fn
		line: task 0, 2:9 x=1, 0:15 f=fn g=fn
		line: task 0, 2:10 x=1 y=1, 0:15 f=fn g=fn
		call f: task 0, 1:0 a=1, 2:10 x=1 y=1, 0:15 f=fn g=fn
		line: task 0, 1:2 a=1, 2:10 x=1 y=1, 0:15 f=fn g=fn
		line: task 0, 1:3 a=1 b=1, 2:10 x=1 y=1, 0:15 f=fn g=fn
		line: task 0, 1:4 a=1 b=1 c=1, 2:10 x=1 y=1, 0:15 f=fn g=fn
		throw error 1: task 0, 1:4 a=1 b=1 c=1, 2:10 x=1 y=1, 0:15 f=fn g=fn
		back error: task 0, 1:0 a=1, 2:10 x=1 y=1, 0:15 f=fn g=fn
		catch error 1: task 0, 2:8 x=1, 0:15 f=fn g=fn
		line: task 0, 2:11 x=1 e=table s=f:4 g:10 main:15, 0:15 f=fn g=fn
		print f:4 g:10 main:15: task 0, 2:11 x=1 e=table s=f:4 g:10 main:15, 0:15 f=fn g=fn
		line: task 0, 2:12 x=1, 0:15 f=fn g=fn
		throw error 1: task 0, 2:12 x=1, 0:15 f=fn g=fn
		back error: task 0, 2:0 x=1, 0:15 f=fn g=fn
		catch error 1: task 0, 0:14 f=fn g=fn
		line: task 0, 0:18 f=fn g=fn
		call f: task 0, 1:0 a=2, 0:18 f=fn g=fn
		line: task 0, 1:2 a=2, 0:18 f=fn g=fn
		line: task 0, 1:3 a=2 b=2, 0:18 f=fn g=fn
		line: task 0, 1:4 a=2 b=2 c=1, 0:18 f=fn g=fn
		throw error 1: task 0, 1:4 a=2 b=2 c=1, 0:18 f=fn g=fn
		back error: task 0, 1:0 a=2, 0:18 f=fn g=fn`)
}

// While a defer is run, its NDefer is the statement at hand, and what its NBlock
// has declared is in scope; what stood further inside is not.
func TestP12Defers(t *testing.T) {
	wantViews(t, `let d = fn d(x) {
		  print(x)
		}
		{
		  let a = 1
		  defer d(a)
		  a = 2
		  let b = 3
		}
		print()`, lots(), `
		line: task 0, 0:1
		line: task 0, 0:5 d=fn
		line: task 0, 0:6 d=fn a=1
		line: task 0, 0:7 d=fn a=1
		line: task 0, 0:8 d=fn a=2
		call d: task 0, 1:0 x=1, 0:6 d=fn a=2 b=3
		line: task 0, 1:2 x=1, 0:6 d=fn a=2 b=3
		print 1: task 0, 1:2 x=1, 0:6 d=fn a=2 b=3
		back: task 0, 1:0 x=1, 0:6 d=fn a=2 b=3
		line: task 0, 0:10 d=fn
		print: task 0, 0:10 d=fn`)
	wantViews(t, `let d = fn d(x) { print(x) }
		let f = fn f(p) {
		  defer d("outer")
		  let q = 1
		  for i = 1, 9, 1 {
		    let r = i
		    defer d("inner")
		    if i == 2 {
		      let s = 0
		      return s
		    }
		    let u = 8
		  }
		  let v = 7
		}
		f(5)`, lots(), `
		line: task 0, 0:1
		line: task 0, 0:2 d=fn
		line: task 0, 0:16 d=fn f=fn
		call f: task 0, 2:0 p=5, 0:16 d=fn f=fn
		line: task 0, 2:3 p=5, 0:16 d=fn f=fn
		line: task 0, 2:4 p=5, 0:16 d=fn f=fn
		line: task 0, 2:5 p=5 q=1, 0:16 d=fn f=fn
		line: task 0, 2:6 p=5 q=1 i=1, 0:16 d=fn f=fn
		line: task 0, 2:7 p=5 q=1 i=1 r=1, 0:16 d=fn f=fn
		line: task 0, 2:8 p=5 q=1 i=1 r=1, 0:16 d=fn f=fn
		line: task 0, 2:12 p=5 q=1 i=1 r=1, 0:16 d=fn f=fn
		call d: task 0, 1:0 x=inner, 2:7 p=5 q=1 i=1 r=1 u=8, 0:16 d=fn f=fn
		line: task 0, 1:1 x=inner, 2:7 p=5 q=1 i=1 r=1 u=8, 0:16 d=fn f=fn
		print inner: task 0, 1:1 x=inner, 2:7 p=5 q=1 i=1 r=1 u=8, 0:16 d=fn f=fn
		back: task 0, 1:0 x=inner, 2:7 p=5 q=1 i=1 r=1 u=8, 0:16 d=fn f=fn
		line: task 0, 2:6 p=5 q=1 i=2, 0:16 d=fn f=fn
		line: task 0, 2:7 p=5 q=1 i=2 r=2, 0:16 d=fn f=fn
		line: task 0, 2:8 p=5 q=1 i=2 r=2, 0:16 d=fn f=fn
		line: task 0, 2:9 p=5 q=1 i=2 r=2, 0:16 d=fn f=fn
		line: task 0, 2:10 p=5 q=1 i=2 r=2 s=0, 0:16 d=fn f=fn
		call d: task 0, 1:0 x=inner, 2:7 p=5 q=1 i=2 r=2, 0:16 d=fn f=fn
		line: task 0, 1:1 x=inner, 2:7 p=5 q=1 i=2 r=2, 0:16 d=fn f=fn
		print inner: task 0, 1:1 x=inner, 2:7 p=5 q=1 i=2 r=2, 0:16 d=fn f=fn
		back: task 0, 1:0 x=inner, 2:7 p=5 q=1 i=2 r=2, 0:16 d=fn f=fn
		call d: task 0, 1:0 x=outer, 2:3 p=5 q=1, 0:16 d=fn f=fn
		line: task 0, 1:1 x=outer, 2:3 p=5 q=1, 0:16 d=fn f=fn
		print outer: task 0, 1:1 x=outer, 2:3 p=5 q=1, 0:16 d=fn f=fn
		back: task 0, 1:0 x=outer, 2:3 p=5 q=1, 0:16 d=fn f=fn
		back: task 0, 2:0 p=5, 0:16 d=fn f=fn`)
	wantViews(t, `let d = fn d() { throw "second" }
		try {
		  let a = 1
		  defer d()
		  {
		    let b = 2
		    throw "first"
		  }
		  let c = 3
		} catch e, s {
		  print(e)
		}`, lots(), `
		line: task 0, 0:1
		line: task 0, 0:2 d=fn
		line: task 0, 0:3 d=fn
		line: task 0, 0:4 d=fn a=1
		line: task 0, 0:6 d=fn a=1
		line: task 0, 0:7 d=fn a=1 b=2
		throw first: task 0, 0:7 d=fn a=1 b=2
		call d: task 0, 1:0, 0:4 d=fn a=1
		line: task 0, 1:1, 0:4 d=fn a=1
		throw second: task 0, 1:1, 0:4 d=fn a=1
		back error: task 0, 1:0, 0:4 d=fn a=1
		catch second: task 0, 0:2 d=fn
		line: task 0, 0:11 d=fn e=second s=d:1 main:4
		print second: task 0, 0:11 d=fn e=second s=d:1 main:4`)
}
