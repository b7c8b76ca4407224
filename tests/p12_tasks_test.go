package tests

import "testing"

// At a RecTurn the new task is running, with its open calls: none, when it is
// new. Those of the others are not shown.
func TestP12Turns(t *testing.T) {
	wantViews(t, `let k = task(fn work(a) {
		  let b = yield(a)
		  {
		    let c = b
		    yield(c)
		  }
		  return a
		})
		let x = 0
		resume(k, 1)
		{
		  let y = 5
		  resume(k, 2)
		}
		resume(k)
		print(status(k))`, lots(), `
		line: task 0, 0:1
		line: task 0, 0:9 k=task
		line: task 0, 0:10 k=task x=0
		turn resume: task 1
		call work: task 1, 1:0 a=1
		line: task 1, 1:2 a=1
		turn yield: task 0, 0:10 k=task x=0
		line: task 0, 0:12 k=task x=0
		line: task 0, 0:13 k=task x=0 y=5
		turn resume: task 1, 1:2 a=1
		line: task 1, 1:4 a=1 b=2
		line: task 1, 1:5 a=1 b=2 c=2
		turn yield: task 0, 0:13 k=task x=0 y=5
		line: task 0, 0:15 k=task x=0
		turn resume: task 1, 1:5 a=1 b=2 c=2
		line: task 1, 1:7 a=1 b=2
		back: task 1, 1:0 a=1
		turn done: task 0, 0:15 k=task x=0
		line: task 0, 0:16 k=task x=0
		print done: task 0, 0:16 k=task x=0`)
	wantViews(t, `let k = task(fn bad(a) {
		  let b = a
		  throw b
		})
		let r, v, s = resume(k, "e")
		print(v)`, lots(), `
		line: task 0, 0:1
		line: task 0, 0:5 k=task
		turn resume: task 1
		call bad: task 1, 1:0 a=e
		line: task 1, 1:2 a=e
		line: task 1, 1:3 a=e b=e
		throw e: task 1, 1:3 a=e b=e
		back error: task 1, 1:0 a=e
		turn error: task 0, 0:5 k=task
		line: task 0, 0:6 k=task r=false v=e s=bad:3
		print e: task 0, 0:6 k=task r=false v=e s=bad:3`)
	wantViews(t, `let outer = task(fn outer(a) {
		  let inner = task(fn inner(b) {
		    let c = yield(b)
		  })
		  resume(inner, a)
		  let d = yield()
		  resume(inner)
		})
		resume(outer, 1)
		resume(outer, 2)`, lots(), `
		line: task 0, 0:1
		line: task 0, 0:9 outer=task
		turn resume: task 1
		call outer: task 1, 1:0 a=1
		line: task 1, 1:2 a=1
		line: task 1, 1:5 a=1 inner=task
		turn resume: task 2
		call inner: task 2, 2:0 b=1
		line: task 2, 2:3 b=1
		turn yield: task 1, 1:5 a=1 inner=task
		line: task 1, 1:6 a=1 inner=task
		turn yield: task 0, 0:9 outer=task
		line: task 0, 0:10 outer=task
		turn resume: task 1, 1:6 a=1 inner=task
		line: task 1, 1:7 a=1 inner=task d=2
		turn resume: task 2, 2:3 b=1
		back: task 2, 2:0 b=1
		turn done: task 1, 1:7 a=1 inner=task d=2
		back: task 1, 1:0 a=1
		turn done: task 0, 0:10 outer=task`)
}

// All that is shown in the text's own task is shown in another one.
func TestP12OtherTask(t *testing.T) {
	wantViews(t, `let kind = {index: fn index(t, k) { throw k }}
		let k = task(fn work(...) {
		  let t = setkind({}, kind)
		  for i = 1, 1, 1 {
		    defer print(i)
		    try {
		      let x = t.bad
		    } catch e, s {
		      print(e)
		      let y = yield(e)
		    }
		    let z = "z"
		  }
		  print(...)
		})
		let first = resume(k, "rest")
		let second = resume(k, "y")`, lots(), `
		line: task 0, 0:1
		line: task 0, 0:2 kind=table
		line: task 0, 0:16 kind=table k=task
		turn resume: task 1
		call work: task 1, 2:0
		line: task 1, 2:3
		line: task 1, 2:4 t=table
		line: task 1, 2:5 t=table i=1
		line: task 1, 2:6 t=table i=1
		line: task 1, 2:7 t=table i=1
		call index: task 1, 1:0 t=table k=bad, 2:7 t=table i=1
		line: task 1, 1:1 t=table k=bad, 2:7 t=table i=1
		throw bad: task 1, 1:1 t=table k=bad, 2:7 t=table i=1
		back error: task 1, 1:0 t=table k=bad, 2:7 t=table i=1
		catch bad: task 1, 2:6 t=table i=1
		line: task 1, 2:9 t=table i=1 e=bad s=index:1 work:7
		print bad: task 1, 2:9 t=table i=1 e=bad s=index:1 work:7
		line: task 1, 2:10 t=table i=1 e=bad s=index:1 work:7
		turn yield: task 0, 0:16 kind=table k=task
		line: task 0, 0:17 kind=table k=task first=true
		turn resume: task 1, 2:10 t=table i=1 e=bad s=index:1 work:7
		line: task 1, 2:12 t=table i=1
		print 1: task 1, 2:5 t=table i=1 z=z
		line: task 1, 2:14 t=table
		print rest: task 1, 2:14 t=table
		back: task 1, 2:0
		turn done: task 0, 0:17 kind=table k=task first=true`)
}

// A task that is given up stands where it yielded, and leaves from there.
func TestP12GivingUp(t *testing.T) {
	wantViews(t, `let d = fn d(x) { throw x }
		let k = task(fn work(a) {
		  defer d("dropped")
		  try {
		    let b = a
		    fn inner(c) {
		      let g = yield(c)
		      print("never")
		    }(b)
		  } catch e, s {}
		})
		resume(k, 1)
		let ok, e = giveup(k)
		print(e)`, lots(), `
		line: task 0, 0:1
		line: task 0, 0:2 d=fn
		line: task 0, 0:12 d=fn k=task
		turn resume: task 1
		call work: task 1, 2:0 a=1
		line: task 1, 2:3 a=1
		line: task 1, 2:4 a=1
		line: task 1, 2:5 a=1
		line: task 1, 2:6 a=1 b=1
		call inner: task 1, 3:0 c=1, 2:6 a=1 b=1
		line: task 1, 3:7 c=1, 2:6 a=1 b=1
		turn yield: task 0, 0:12 d=fn k=task
		line: task 0, 0:13 d=fn k=task
		turn giveup: task 1, 3:7 c=1, 2:6 a=1 b=1
		back gone: task 1, 3:0 c=1, 2:6 a=1 b=1
		call d: task 1, 1:0 x=dropped, 2:3 a=1
		line: task 1, 1:1 x=dropped, 2:3 a=1
		throw dropped: task 1, 1:1 x=dropped, 2:3 a=1
		back error: task 1, 1:0 x=dropped, 2:3 a=1
		back gone: task 1, 2:0 a=1
		turn gone: task 0, 0:13 d=fn k=task
		line: task 0, 0:14 d=fn k=task ok=false e=dropped
		print dropped: task 0, 0:14 d=fn k=task ok=false e=dropped`)
}

// Last words are spoken, and what they throw is caught, where collect was called.
func TestP12Last(t *testing.T) {
	wantViews(t, `let t = 1
		setkind({n: 1}, {last: fn last(self) {
		  let n = self.n
		  print(n)
		}})
		setkind({n: 2}, {last: fn(self) {
		  let m = 5
		  throw m
		}})
		{
		  let u = 2
		  collect()
		}
		print(t)`, lots(), `
		line: task 0, 0:1
		line: task 0, 0:2 t=1
		line: task 0, 0:6 t=1
		line: task 0, 0:11 t=1
		line: task 0, 0:12 t=1 u=2
		last: task 0, 0:12 t=1 u=2
		call last: task 0, 1:0 self=table, 0:12 t=1 u=2
		line: task 0, 1:3 self=table, 0:12 t=1 u=2
		line: task 0, 1:4 self=table n=1, 0:12 t=1 u=2
		print 1: task 0, 1:4 self=table n=1, 0:12 t=1 u=2
		back: task 0, 1:0 self=table, 0:12 t=1 u=2
		last: task 0, 0:12 t=1 u=2
		call: task 0, 2:0 self=table, 0:12 t=1 u=2
		line: task 0, 2:7 self=table, 0:12 t=1 u=2
		line: task 0, 2:8 self=table m=5, 0:12 t=1 u=2
		throw 5: task 0, 2:8 self=table m=5, 0:12 t=1 u=2
		back error: task 0, 2:0 self=table, 0:12 t=1 u=2
		catch 5: task 0, 0:12 t=1 u=2
		line: task 0, 0:14 t=1
		print 1: task 0, 0:14 t=1`)
	wantViews(t, `let k = task(fn work() {
		  let w = 1
		  setkind({}, {last: fn bye(self) { let z = 2 yield() }})
		  collect()
		  yield()
		})
		resume(k)`, lots(), `
		line: task 0, 0:1
		line: task 0, 0:7 k=task
		turn resume: task 1
		call work: task 1, 1:0
		line: task 1, 1:2
		line: task 1, 1:3 w=1
		line: task 1, 1:4 w=1
		last: task 1, 1:4 w=1
		call bye: task 1, 2:0 self=table, 1:4 w=1
		line: task 1, 2:3 self=table, 1:4 w=1
		line: task 1, 2:3 self=table z=2, 1:4 w=1
		throw error 10: task 1, 2:3 self=table z=2, 1:4 w=1
		back error: task 1, 2:0 self=table, 1:4 w=1
		catch error 10: task 1, 1:4 w=1
		line: task 1, 1:5 w=1
		turn yield: task 0, 0:7 k=task`)
}
