package tests

import "testing"

// Variables that are declared, not declared yet, and out of scope again; two of
// one name, of which the inner one hides the outer for the text, not for the view.
func TestP12Lines(t *testing.T) {
	wantViews(t, `let a = 1
		let b, c = a
		{
		  let a = 2
		  b = 3
		  let d = "x y"
		}
		print(a, b)
		let e = {}`, lots(), `
		line: task 0, 0:1
		line: task 0, 0:2 a=1
		line: task 0, 0:4 a=1 b=1 c=nil
		line: task 0, 0:5 a=1 b=1 c=nil a=2
		line: task 0, 0:6 a=1 b=3 c=nil a=2
		line: task 0, 0:8 a=1 b=3 c=nil
		print 1 3: task 0, 0:8 a=1 b=3 c=nil
		line: task 0, 0:9 a=1 b=3 c=nil`)
	wantViews(t, `if true {
		  let a = 1
		  print(a)
		} else {
		  let b = 2
		}
		if false {
		} else if true {
		  let c = 3
		  print(c)
		}
		print()`, lots(), `
		line: task 0, 0:1
		line: task 0, 0:2
		line: task 0, 0:3 a=1
		print 1: task 0, 0:3 a=1
		line: task 0, 0:7
		line: task 0, 0:8
		line: task 0, 0:9
		line: task 0, 0:10 c=3
		print 3: task 0, 0:10 c=3
		line: task 0, 0:12
		print: task 0, 0:12`)
}

// A call is open from RecCall, with its parameters, to RecBack, where its
// NBlocks are left.
func TestP12Calls(t *testing.T) {
	wantViews(t, `let n = 0
		let f = fn f(a, b, ...) {
		  a = a + 1
		  let c = a
		  n = c
		  return c, b
		}
		n = f(1, "x", 9)
		f(2)`, lots(), `
		line: task 0, 0:1
		line: task 0, 0:2 n=0
		line: task 0, 0:8 n=0 f=fn
		call f: task 0, 1:0 a=1 b=x, 0:8 n=0 f=fn
		line: task 0, 1:3 a=1 b=x, 0:8 n=0 f=fn
		line: task 0, 1:4 a=2 b=x, 0:8 n=0 f=fn
		line: task 0, 1:5 a=2 b=x c=2, 0:8 n=0 f=fn
		line: task 0, 1:6 a=2 b=x c=2, 0:8 n=2 f=fn
		back: task 0, 1:0 a=2 b=x, 0:8 n=2 f=fn
		line: task 0, 0:9 n=2 f=fn
		call f: task 0, 1:0 a=2 b=nil, 0:9 n=2 f=fn
		line: task 0, 1:3 a=2 b=nil, 0:9 n=2 f=fn
		line: task 0, 1:4 a=3 b=nil, 0:9 n=2 f=fn
		line: task 0, 1:5 a=3 b=nil c=3, 0:9 n=2 f=fn
		line: task 0, 1:6 a=3 b=nil c=3, 0:9 n=3 f=fn
		back: task 0, 1:0 a=3 b=nil, 0:9 n=3 f=fn`)
	wantViews(t, `let f
		f = fn down(n) {
		  if n > 0 {
		    let m = n - 1
		    f(m)
		  }
		}
		f(2)`, lots(), `
		line: task 0, 0:1
		line: task 0, 0:2 f=nil
		line: task 0, 0:8 f=fn
		call down: task 0, 1:0 n=2, 0:8 f=fn
		line: task 0, 1:3 n=2, 0:8 f=fn
		line: task 0, 1:4 n=2, 0:8 f=fn
		line: task 0, 1:5 n=2 m=1, 0:8 f=fn
		call down: task 0, 1:0 n=1, 1:5 n=2 m=1, 0:8 f=fn
		line: task 0, 1:3 n=1, 1:5 n=2 m=1, 0:8 f=fn
		line: task 0, 1:4 n=1, 1:5 n=2 m=1, 0:8 f=fn
		line: task 0, 1:5 n=1 m=0, 1:5 n=2 m=1, 0:8 f=fn
		call down: task 0, 1:0 n=0, 1:5 n=1 m=0, 1:5 n=2 m=1, 0:8 f=fn
		line: task 0, 1:3 n=0, 1:5 n=1 m=0, 1:5 n=2 m=1, 0:8 f=fn
		back: task 0, 1:0 n=0, 1:5 n=1 m=0, 1:5 n=2 m=1, 0:8 f=fn
		back: task 0, 1:0 n=1, 1:5 n=2 m=1, 0:8 f=fn
		back: task 0, 1:0 n=2, 0:8 f=fn`)
}

// In each turn the variables are declared anew.
func TestP12Loops(t *testing.T) {
	wantViews(t, `let i = 0
		while i < 2 {
		  i = i + 1
		  let j = i
		  print(j)
		}
		for k = 2, 1, -1 {
		  let l = k
		  k = 7
		  print(k)
		}
		print()`, lots(), `
		line: task 0, 0:1
		line: task 0, 0:2 i=0
		line: task 0, 0:3 i=0
		line: task 0, 0:4 i=1
		line: task 0, 0:5 i=1 j=1
		print 1: task 0, 0:5 i=1 j=1
		line: task 0, 0:3 i=1
		line: task 0, 0:4 i=2
		line: task 0, 0:5 i=2 j=2
		print 2: task 0, 0:5 i=2 j=2
		line: task 0, 0:7 i=2
		line: task 0, 0:8 i=2 k=2
		line: task 0, 0:9 i=2 k=2 l=2
		line: task 0, 0:10 i=2 k=7 l=2
		print 7: task 0, 0:10 i=2 k=7 l=2
		line: task 0, 0:8 i=2 k=1
		line: task 0, 0:9 i=2 k=1 l=1
		line: task 0, 0:10 i=2 k=7 l=1
		print 7: task 0, 0:10 i=2 k=7 l=1
		line: task 0, 0:12 i=2
		print: task 0, 0:12 i=2`)
	wantViews(t, `each k, v, w in {1: "a", x: true} {
		  let j = v
		  if j == "a" { next }
		  print(k)
		  break
		}
		let n = 2
		each x, y in fn step() {
		  n = n - 1
		  if n > 0 { return n, {} }
		} {
		  let z = x
		  print(z)
		}
		print()`, lots(), `
		line: task 0, 0:1
		line: task 0, 0:2 k=1 v=a w=nil
		line: task 0, 0:3 k=1 v=a w=nil j=a
		line: task 0, 0:3 k=1 v=a w=nil j=a
		line: task 0, 0:2 k=x v=true w=nil
		line: task 0, 0:3 k=x v=true w=nil j=true
		line: task 0, 0:4 k=x v=true w=nil j=true
		print x: task 0, 0:4 k=x v=true w=nil j=true
		line: task 0, 0:5 k=x v=true w=nil j=true
		line: task 0, 0:7
		line: task 0, 0:8 n=2
		call step: task 0, 1:0, 0:8 n=2
		line: task 0, 1:9, 0:8 n=2
		line: task 0, 1:10, 0:8 n=1
		line: task 0, 1:10, 0:8 n=1
		back: task 0, 1:0, 0:8 n=1
		line: task 0, 0:12 n=1 x=1 y=table
		line: task 0, 0:13 n=1 x=1 y=table z=1
		print 1: task 0, 0:13 n=1 x=1 y=table z=1
		call step: task 0, 1:0, 0:8 n=1
		line: task 0, 1:9, 0:8 n=1
		line: task 0, 1:10, 0:8 n=0
		back: task 0, 1:0, 0:8 n=0
		line: task 0, 0:15 n=0
		print: task 0, 0:15 n=0`)
}

// While a handler is called, the statement at hand stays.
func TestP12Handlers(t *testing.T) {
	wantViews(t, `let kind = {index: fn index(t, k) { return k }, add: fn add(a, b) { let c = b return c }}
		let t = setkind({}, kind)
		let n = t.x
		let m = t + 4
		print(n, m)`, lots(), `
		line: task 0, 0:1
		line: task 0, 0:2 kind=table
		line: task 0, 0:3 kind=table t=table
		call index: task 0, 1:0 t=table k=x, 0:3 kind=table t=table
		line: task 0, 1:1 t=table k=x, 0:3 kind=table t=table
		back: task 0, 1:0 t=table k=x, 0:3 kind=table t=table
		line: task 0, 0:4 kind=table t=table n=x
		call add: task 0, 2:0 a=table b=4, 0:4 kind=table t=table n=x
		line: task 0, 2:1 a=table b=4, 0:4 kind=table t=table n=x
		line: task 0, 2:1 a=table b=4 c=4, 0:4 kind=table t=table n=x
		back: task 0, 2:0 a=table b=4, 0:4 kind=table t=table n=x
		line: task 0, 0:5 kind=table t=table n=x m=4
		print x 4: task 0, 0:5 kind=table t=table n=x m=4`)
	wantViews(t, `let t = setkind({}, {
		  setindex: fn put(s, k, v) { rawset(s, k, v) },
		  call: fn call(s, a) { let b = a return b },
		  each: fn each(s) { return fn step() {} },
		  len: fn len(s) { return 7 },
		  eq: fn eq(a, b) { return true },
		  lt: fn lt(a, b) { return true }
		})
		t.a = 1
		let c, l = t(5), #t
		each x in t {}
		print(t == {}, t < 1)`, lots(), `
		line: task 0, 0:1
		line: task 0, 0:9 t=table
		call put: task 0, 1:0 s=table k=a v=1, 0:9 t=table
		line: task 0, 1:2 s=table k=a v=1, 0:9 t=table
		back: task 0, 1:0 s=table k=a v=1, 0:9 t=table
		line: task 0, 0:10 t=table
		call call: task 0, 2:0 s=table a=5, 0:10 t=table
		line: task 0, 2:3 s=table a=5, 0:10 t=table
		line: task 0, 2:3 s=table a=5 b=5, 0:10 t=table
		back: task 0, 2:0 s=table a=5, 0:10 t=table
		call len: task 0, 5:0 s=table, 0:10 t=table
		line: task 0, 5:5 s=table, 0:10 t=table
		back: task 0, 5:0 s=table, 0:10 t=table
		line: task 0, 0:11 t=table c=5 l=7
		call each: task 0, 3:0 s=table, 0:11 t=table c=5 l=7
		line: task 0, 3:4 s=table, 0:11 t=table c=5 l=7
		back: task 0, 3:0 s=table, 0:11 t=table c=5 l=7
		call step: task 0, 4:0, 0:11 t=table c=5 l=7
		back: task 0, 4:0, 0:11 t=table c=5 l=7
		line: task 0, 0:12 t=table c=5 l=7
		call eq: task 0, 6:0 a=table b=table, 0:12 t=table c=5 l=7
		line: task 0, 6:6 a=table b=table, 0:12 t=table c=5 l=7
		back: task 0, 6:0 a=table b=table, 0:12 t=table c=5 l=7
		call lt: task 0, 7:0 a=table b=1, 0:12 t=table c=5 l=7
		line: task 0, 7:7 a=table b=1, 0:12 t=table c=5 l=7
		back: task 0, 7:0 a=table b=1, 0:12 t=table c=5 l=7
		print true true: task 0, 0:12 t=table c=5 l=7`)
}
