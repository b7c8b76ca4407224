import Derived.Test.YtaimofjekgnieaaGreatDoorGnE
import Derived.Test.YtaimofjekgnieaaGreatDoorGives
import Derived.Deep.Cut
import Derived.Deep.DeepCutAuto
import Derived.Deep.RegionHeld3
import Derived.Shelf.Abstract
set_option maxRecDepth 100000
set_option maxHeartbeats 16000000
namespace Go.Proofs.YtaimofjekgnieaaGreatDoor
open Go.RowKit
attribute [local go_sem] q00
attribute [local go_sem ↓] Go.wp_at_zero Go.wp_at_succ
theorem zh4:(Tryz.prog.info? 268).map (fun i=>(i.zero,i.size,i.bytes))=some (some .nilFunc,1,8):=by kernel_rfl
theorem qx6:(Tryz.prog.info? 107).map (fun i=>(i.zero,i.size,i.bytes))=some (some .nilFunc,1,8):=by kernel_rfl
theorem q45 (P:Program) (w:World) (a:Addr) (m:Mode) (f:Fn) (x y:Array Value):(store a (.func f x y) m).run P w=stored P w a (.func f x y) m:=run_store P w a _ m rfl
theorem q56 (fn:Fn) (first cap:Array Value) (w:World):(Instr.makeFunc fn first cap).run Tryz.prog w=.ok (.func fn first cap) w:=rfl
theorem q20 (w:World):Below w.heap.size w w:=Below.refl _ _
theorem q22 {w u:World} (h:Below w.heap.size w u):Below w.heap.size w u.drew:=h.drew
theorem q15 {w u:World} (h:Below w.heap.size w u) (o:Obj):Below w.heap.size w (u.alloc o):=h.alloc h.size o
theorem q29 {w u:World} (h:Below w.heap.size w u) {B o:Nat} (v:Value) (hB:w.heap.size<=B):Below w.heap.size w (u.setCell ⟨B,o,none⟩ v):=h.setCell hB v
theorem OwnB.call {u w:World} {B:Nat} {A:Array Value} (h:OwnB u B A) (hb:Below u.heap.size u w):OwnB w B A:=h.block hb.size (hb.block _ h.1.1)
theorem OwnB.alloc {u:World} {B:Nat} {A:Array Value} (h:OwnB u B A) (o:Obj):OwnB (u.alloc o) B A:=h.call (q01 _ _)
theorem OwnB.drew {u:World} {B:Nat} {A:Array Value} (h:OwnB u B A):OwnB u.drew B A:=h.call (Below.refl _ _).drew
theorem qi5 {u:World} {B:Nat} {x v:Value} (h:OwnB u B #[x]):Has (u.setCell ⟨B,0,none⟩ v) B #[v]:=(h.set (o:=0) (by show 0<1;omega) v).1
theorem qi6 {u:World} {B C:Nat} {A:Array Value} {o:Nat} {v:Value} (h:Has u C A) (hne:C≠B):Has (u.setCell ⟨B,o,none⟩ v) C A:=⟨by simpa using h.1,fun i=>(World.cell?_of_block (a:=⟨C,i,none⟩) (Below.heap_setCell _ ⟨B,o,none⟩ v C hne)).trans (h.2 i)⟩
theorem q30 {u:World} {B C:Nat} {A:Array Value} {o:Nat} {v:Value} (h:OwnB u C A) (hne:C≠B):OwnB (u.setCell ⟨B,o,none⟩ v) C A:=h.block (by simp) (Below.heap_setCell _ ⟨B,o,none⟩ v C hne)
structure Bp (w:World) (B C:Nat) (x y:Value):Prop where
 a:OwnB w B #[x]
 b:OwnB w C #[y]
structure Bo (w:World) (B:Nat) (x:Value):Prop where
 a:OwnB w B #[x]
theorem q41 (v:World) (o:Obj) (A:Array Value) (t:TypeId):OwnB ((v.alloc o).alloc (.cells A t)) (v.heap.size+1) A:=by
 have h:=OwnB.new (v.alloc o) A t
 rw[World.size_alloc] at h
 exact h
theorem q87 (v:World) (o:Obj) (A:Array Value) (t:TypeId):Has ((v.alloc o).alloc (.cells A t)) (v.heap.size+1) A:=(q41 v o A t).1
theorem qn3 (v:World) (p:Addr) (x:Value) (A:Array Value) (t:TypeId):Has ((v.setCell p x).alloc (.cells A t)) v.heap.size A:=by
 have h:=Has.new (v.setCell p x) A t
 rw[World.size_setCell] at h
 exact h
theorem box0 {v w1:World} {x:Value} {t:TypeId} (hb:Below (v.drew.alloc (.cells #[x] t)).heap.size (v.drew.alloc (.cells #[x] t)) w1):Bo w1 v.heap.size x:=⟨(OwnB.new v.drew #[x] t).call hb⟩
theorem box1 {v w1:World} {x:Value} {t:TypeId} (hb:Below (v.alloc (.cells #[x] t)).heap.size (v.alloc (.cells #[x] t)) w1):Bo w1 v.heap.size x:=⟨(OwnB.new v #[x] t).call hb⟩
theorem box00 {v w1:World} {x y:Value} {t s:TypeId} (hb:Below ((v.drew.alloc (.cells #[x] t)).alloc (.cells #[y] s)).heap.size ((v.drew.alloc (.cells #[x] t)).alloc (.cells #[y] s)) w1):Bp w1 v.heap.size (v.heap.size+1) x y:=⟨((OwnB.new v.drew #[x] t).alloc _).call hb,(q41 v.drew _ #[y] s).call hb⟩
theorem box2 {v w1:World} {x y:Value} {t s:TypeId} (hb:Below ((v.alloc (.cells #[x] t)).alloc (.cells #[y] s)).heap.size ((v.alloc (.cells #[x] t)).alloc (.cells #[y] s)) w1):Bp w1 v.heap.size (v.heap.size+1) x y:=⟨((OwnB.new v #[x] t).alloc _).call hb,(q41 v _ #[y] s).call hb⟩
theorem Bp.call {u w:World} {B C:Nat} {x y:Value} (h:Bp u B C x y) (hb:Below u.heap.size u w):Bp w B C x y:=⟨h.a.call hb,h.b.call hb⟩
theorem Bo.call {u w:World} {B:Nat} {x:Value} (h:Bo u B x) (hb:Below u.heap.size u w):Bo w B x:=⟨h.a.call hb⟩
theorem Bo.next {u w:World} {B:Nat} {x y:Value} {t:TypeId} (h:Bo u B x) (hb:Below (u.alloc (.cells #[y] t)).heap.size (u.alloc (.cells #[y] t)) w):Bp w B u.heap.size x y:=⟨(h.a.alloc _).call hb,(box1 hb).a⟩
theorem qj6 {P:Program} {ops:Array Oper} {o:Oper} {a:Act} {w:World} {K:Act->World->Prop} {Q:Exit->Act->World->Prop} {E:Prop} (hgd:o.guard=none) (f:Nat) (x y:Operand) (t u:TypeId) (ho:o.op=.call {callee:=.value (.func f),args:=#[x,y],argTypes:=#[t,u]}) (vx vy:Value) (hx:a.eval x=vx) (hy:a.eval y=vy)
  (eg:∀ args w,(callFunc f args).run P w=.ok (.enter f args) w) (R:Ending->World->Prop) (hc:Calls P f #[vx,vy] w R) (h:∀ e w',R e w'->∃ v,e=.returned v/\K (a.put o.dst v) w') :
  if Region.wanted o (yielded ops a.tmps)=true then Oper.wp P o a w K Q else E:=by
 have hw:Region.wanted o (yielded ops a.tmps)=true:=by simp[Region.wanted,hgd]
 rw[if_pos hw]
 have e1:(execOp a.eval o).run P w=.ok (.enter f #[vx,vy]) w:=by
  unfold execOp
  simp[ho,resolve,invoke,eg,go_sem]
  exact ⟨by simpa[Act.eval] using hx,by simpa[Act.eval] using hy⟩
 unfold Oper.wp
 rw[e1,Oper.upon_enter]
 refine hc.mono ?_
 intro e w' hr
 obtain ⟨v,rfl,hk⟩:=h e w' hr
 exact hk
theorem zk6 {w w1:World} {A B:Array Value} {s t:TypeId} (hb:Below ((w.alloc (.cells A s)).alloc (.cells B t)).heap.size ((w.alloc (.cells A s)).alloc (.cells B t)) w1):OwnB w1 (w.heap.size+1) B:=by
 have h:=OwnB.new (w.alloc (.cells A s)) B t
 rw[World.size_alloc] at h
 exact h.block hb.size (hb.block _ (by simp))
structure BB (M bb:Nat) (d:FD) (x:FA) (w:World):Prop where
 b:Has w bb #[ptr M,.slice x.na d.nn x.nc]
 n:NodesAt 0 w d.nn d.nd x.na x.nas
theorem BB.call {M bb:Nat} {d:FD} {x:FA} {w w':World} (h:BB M bb d x w) (hb:Below w.heap.size w w'):BB M bb d x w':=⟨h.b.call hb,⟨RowN.below h.n.1 hb,fun i hi=>(h.n.2 i hi).below hb⟩⟩
theorem BB.node {M bb:Nat} {d:FD} {x:FA} {w:World} (h:BB M bb d x w) {i:Nat} (hi:i<d.nn):∃ b off,x.na=some ⟨b,off,none⟩/\b<w.heap.size/\w.cell? ⟨b,off+i*8,none⟩=some (.int .i64 (d.nd i).k)/\w.cell? ⟨b,off+i*8+1,none⟩=some (.int .i64 (d.nd i).l)/\w.cell? ⟨b,off+i*8+2,none⟩=some (.int .i64 (d.nd i).o)/\w.cell? ⟨b,off+i*8+3,none⟩=some (.int .i64 (d.nd i).n)/\w.cell? ⟨b,off+i*8+4,none⟩=some (.float .f64 (d.nd i).f)/\w.cell? ⟨b,off+i*8+5,none⟩=some (.string (d.nd i).s)/\w.cell? ⟨b,off+i*8+6,none⟩=some (.slice (x.nas i).ra (d.nd i).rn (x.nas i).rc)/\w.cell? ⟨b,off+i*8+7,none⟩=some (.slice (x.nas i).ka (d.nd i).kn (x.nas i).kc):=by
 obtain ⟨b,off,e,_,h1,h2⟩:=h.n.1 (by omega)
 have hc:=h2 i hi
 exact ⟨b,off,e,h1,hc 0 (by omega),hc 1 (by omega),hc 2 (by omega),hc 3 (by omega),hc 4 (by omega),hc 5 (by omega),hc 6 (by omega),hc 7 (by omega)⟩
structure Fr (a b:Nat) (u u':World):Prop where
 s:u.heap.size<=u'.heap.size
 k:∀ k,a<=k->k<b->u'.heap[k]?=u.heap[k]?
theorem Fr.refl (a b:Nat) (u:World):Fr a b u u:=⟨Nat.le_refl _,fun _ _ _=>rfl⟩
theorem Fr.call {a b:Nat} {u v v':World} (h:Fr a b u v) (hb:b<=u.heap.size) (k:Below v.heap.size v v'):Fr a b u v':=⟨Nat.le_trans h.s k.size,fun i h1 h2=>(k.block i (by have:=h.s;omega)).trans (h.k i h1 h2)⟩
theorem Fr.alloc {a b:Nat} {u v:World} (h:Fr a b u v) (hb:b<=u.heap.size) (o:Obj):Fr a b u (v.alloc o):=h.call hb (q01 _ _)
theorem Fr.set {a b:Nat} {u v:World} (h:Fr a b u v) {C o:Nat} {x:Value} (hC:C<a\/b<=C):Fr a b u (v.setCell ⟨C,o,none⟩ x):=⟨by simpa using h.s,fun i h1 h2=>(Below.heap_setCell _ ⟨C,o,none⟩ x i (by show i≠C;omega)).trans (h.k i h1 h2)⟩
abbrev Rel:=Value->Nat->World->Prop
structure KpC (R:Rel):Prop where
 old:∀ {v:Value} {n m:Nat} {u:World},R v n u->m<=n->R v m u
 fr:∀ {v:Value} {n:Nat} {u u':World},R v n u->Fr n u.heap.size u u'->R v n u'
theorem KpC.call {R:Rel} (h:KpC R) {v:Value} {n:Nat} {u u':World} (r:R v n u) (k:Below u.heap.size u u'):R v n u':=h.fr r ((Fr.refl _ _ _).call (Nat.le_refl _) k)
structure Nb (n:Nat) (u:World) (B:Nat) (A:Array Value):Prop where
 n:n<=B
 h:Has u B A
theorem Nb.old {n m:Nat} {u:World} {B:Nat} {A:Array Value} (h:Nb n u B A) (k:m<=n):Nb m u B A:=⟨Nat.le_trans k h.n,h.h⟩
theorem Nb.fr {n:Nat} {u u':World} {B:Nat} {A:Array Value} (h:Nb n u B A) (f:Fr n u.heap.size u u'):Nb n u' B A:=⟨h.n,Nat.lt_of_lt_of_le h.h.1 f.s,fun o=>(World.cell?_of_block (a:=⟨B,o,none⟩) (f.k B h.n h.h.1)).trans (h.h.2 o)⟩
def Mks (R:Rel) (w:World) (e:Ending) (w':World):Prop:=∃ f x y,e=.returned (.func f x y)/\R (.func f x y) w.heap.size w'/\Below w.heap.size w w'
def SubC (F bb:Nat) (w:World) (i:Nat) (R:Rel):Prop:=∀ u,Below w.heap.size w u->Calls Tryz.prog F #[ptr bb,.int .i64 (i:Int)] u fun e u'=>Mks R u e u'
theorem SubC.call {F bb:Nat} {w w':World} {i:Nat} {R:Rel} (h:SubC F bb w i R) (k:Below w.heap.size w w'):SubC F bb w' i R:=fun u hu=>h u (q02 k hu)
abbrev qRet (a:Nat):Value:=.func (.func 174) #[] #[ptr a]
abbrev qLet (a b:Nat):Value:=.func (.func 186) #[] #[ptr a,ptr b]
abbrev qTry (a b c e:Nat):Value:=.func (.func 211) #[] #[ptr a,ptr b,ptr c,ptr e]
abbrev qCl (a b c:Nat):Value:=.func (.func 276) #[] #[ptr a,ptr b,ptr c]
abbrev qFor (a:Nat):Value:=.func (.func 234) #[] #[ptr a]
abbrev qNil:Value:=.func (.func 208) #[] #[]
abbrev yl4:Value:=.func (.func 194) #[] #[]
def qt1 (x:VD):Rel:=fun v n u=>∃ B,v=litV B/\Nb n u B (vA x)
def qt0 (i:Int):Rel:=fun v n u=>∃ B,v=varV B/\Nb n u B #[.int .i64 i]
def IsCl (M:Nat) (ups:Value) (fn:Int):Rel:=fun v n u=>∃ a b c,v=qCl a b c/\Nb n u a #[ptr M]/\Nb n u b #[ups]/\Nb n u c #[.int .i64 fn]
def IsNil:Rel:=fun v _ _=>v=qNil
def zd4:Rel:=fun v _ _=>v=yl4
def y28 (R:Rel):Rel:=fun v n u=>∃ a x,v=oneV a/\Nb n u a #[x]/\R x n u
def zj4 (R:Rel):Rel:=fun v n u=>∃ a x,v=qFor a/\Nb n u a #[x]/\R x n u
def IsDo (R:Rel):Rel:=fun v n u=>∃ a x,v=doV a/\Nb n u a #[x]/\R x n u
def yi2 (R:Rel):Rel:=fun v n u=>∃ a x,v=qRet a/\Nb n u a #[x]/\R x n u
def qv3 (bb:Nat) (R:Rel):Rel:=fun v n u=>∃ a b x,v=allV a b/\Nb n u a #[x]/\Nb n u b #[ptr bb]/\R x n u
def qa4 (R S:Rel):Rel:=fun v n u=>∃ a b x y,v=qh6 a b/\Nb n u a #[x]/\Nb n u b #[y]/\R x n u/\S y n u
def qb9 (bb:Nat) (R S:Rel):Rel:=fun v n u=>∃ a b c x y,v=qg5 a b c/\Nb n u a #[x]/\Nb n u b #[y]/\Nb n u c #[ptr bb]/\R x n u/\S y n u
def qa7 (m:Nat) (Rs:Nat->Rel):Rel:=fun v n u=>∃ (a:Nat) (oa:Option Addr) (oc:Nat) (Vs:Nat->Value),v=qt7 a/\Nb n u a #[.slice oa m oc]/\RowN 1 n u oa m (fun j=>#[Vs j])/\(∀ j,j<m->Rs j (Vs j) n u)/\(m=0->oa=none/\oc=0)
def IsSt (bb:Nat) (A:Array Value) (R:Rel):Rel:=fun v n u=>∃ a b c x,v=stV a b c/\Nb n u a #[ptr bb]/\Nb n u b A/\Nb n u c #[x]/\R x n u
def y29 (A:Array Value) (R:Rel):Rel:=fun v n u=>∃ a b x,v=qLet a b/\Nb n u a A/\Nb n u b #[x]/\R x n u
def yi1 (M:Nat) (A:Array Value) (R S:Rel):Rel:=fun v n u=>∃ a b c e x y,v=qTry a b c e/\Nb n u a #[x]/\Nb n u b #[ptr M]/\Nb n u c A/\Nb n u e #[y]/\R x n u/\S y n u
def IsBk (m:Nat) (Rs:Nat->Rel):Rel:=fun v n u=>∃ (a g gc:Nat) (Vs:Nat->Value),v=bkV a/\Nb n u a #[.slice (some ⟨g,0,none⟩) m gc]/\n<=g/\g<u.heap.size/\(∀ j,j<m->u.cell? ⟨g,j,none⟩=some (Vs j)/\Rs j (Vs j) n u)
theorem RowN.fr {K n m:Nat} {u u':World} {a:Option Addr} {q:Nat->Array Value} (h:RowN K n u a m q) (f:Fr n u.heap.size u u'):RowN K n u' a m q:=fun h0=>by
 obtain ⟨b,off,e,h1,h2,h3⟩:=h h0
 exact ⟨b,off,e,h1,Nat.lt_of_lt_of_le h2 f.s,fun i hi j hj=>(World.cell?_of_block (a:=⟨b,off+i*K+j,none⟩) (f.k b h1 h2)).trans (h3 i hi j hj)⟩
theorem q93 (x:VD):KpC (qt1 x):=⟨fun ⟨B,e,h⟩ k=>⟨B,e,h.old k⟩,fun ⟨B,e,h⟩ f=>⟨B,e,h.fr f⟩⟩
theorem q76 (i:Int):KpC (qt0 i):=⟨fun ⟨B,e,h⟩ k=>⟨B,e,h.old k⟩,fun ⟨B,e,h⟩ f=>⟨B,e,h.fr f⟩⟩
theorem z21 (M:Nat) (ups:Value) (fn:Int):KpC (IsCl M ups fn):=⟨fun ⟨a,b,c,e,h1,h2,h3⟩ k=>⟨a,b,c,e,h1.old k,h2.old k,h3.old k⟩,fun ⟨a,b,c,e,h1,h2,h3⟩ f=>⟨a,b,c,e,h1.fr f,h2.fr f,h3.fr f⟩⟩
theorem z18:KpC IsNil:=⟨fun h _=>h,fun h _=>h⟩
theorem qr0:KpC zd4:=⟨fun h _=>h,fun h _=>h⟩
section
variable {R S:Rel} (kr:KpC R) (ks:KpC S)
include kr
theorem z17:KpC (y28 R):=⟨fun ⟨a,x,e,h,r⟩ k=>⟨a,x,e,h.old k,kr.old r k⟩,fun ⟨a,x,e,h,r⟩ f=>⟨a,x,e,h.fr f,kr.fr r f⟩⟩
theorem z19:KpC (zj4 R):=⟨fun ⟨a,x,e,h,r⟩ k=>⟨a,x,e,h.old k,kr.old r k⟩,fun ⟨a,x,e,h,r⟩ f=>⟨a,x,e,h.fr f,kr.fr r f⟩⟩
theorem qr1:KpC (IsDo R):=⟨fun ⟨a,x,e,h,r⟩ k=>⟨a,x,e,h.old k,kr.old r k⟩,fun ⟨a,x,e,h,r⟩ f=>⟨a,x,e,h.fr f,kr.fr r f⟩⟩
theorem z16:KpC (yi2 R):=⟨fun ⟨a,x,e,h,r⟩ k=>⟨a,x,e,h.old k,kr.old r k⟩,fun ⟨a,x,e,h,r⟩ f=>⟨a,x,e,h.fr f,kr.fr r f⟩⟩
theorem qf4 (bb:Nat):KpC (qv3 bb R):=⟨fun ⟨a,b,x,e,h,h2,r⟩ k=>⟨a,b,x,e,h.old k,h2.old k,kr.old r k⟩,fun ⟨a,b,x,e,h,h2,r⟩ f=>⟨a,b,x,e,h.fr f,h2.fr f,kr.fr r f⟩⟩
theorem qd7 (bb:Nat) (A:Array Value):KpC (IsSt bb A R):=⟨fun ⟨a,b,c,x,e,h,h2,h3,r⟩ k=>⟨a,b,c,x,e,h.old k,h2.old k,h3.old k,kr.old r k⟩,fun ⟨a,b,c,x,e,h,h2,h3,r⟩ f=>⟨a,b,c,x,e,h.fr f,h2.fr f,h3.fr f,kr.fr r f⟩⟩
theorem zl4 (A:Array Value):KpC (y29 A R):=⟨fun ⟨a,b,x,e,h,h2,r⟩ k=>⟨a,b,x,e,h.old k,h2.old k,kr.old r k⟩,fun ⟨a,b,x,e,h,h2,r⟩ f=>⟨a,b,x,e,h.fr f,h2.fr f,kr.fr r f⟩⟩
include ks
theorem q73:KpC (qa4 R S):=⟨fun ⟨a,b,x,y,e,h,h2,r,s⟩ k=>⟨a,b,x,y,e,h.old k,h2.old k,kr.old r k,ks.old s k⟩,fun ⟨a,b,x,y,e,h,h2,r,s⟩ f=>⟨a,b,x,y,e,h.fr f,h2.fr f,kr.fr r f,ks.fr s f⟩⟩
theorem q88 (bb:Nat):KpC (qb9 bb R S):=⟨fun ⟨a,b,c,x,y,e,h,h2,h3,r,s⟩ k=>⟨a,b,c,x,y,e,h.old k,h2.old k,h3.old k,kr.old r k,ks.old s k⟩,fun ⟨a,b,c,x,y,e,h,h2,h3,r,s⟩ f=>⟨a,b,c,x,y,e,h.fr f,h2.fr f,h3.fr f,kr.fr r f,ks.fr s f⟩⟩
theorem zl3 (M:Nat) (A:Array Value):KpC (yi1 M A R S):=⟨fun ⟨a,b,c,d,x,y,e,h,h2,h3,h4,r,s⟩ k=>⟨a,b,c,d,x,y,e,h.old k,h2.old k,h3.old k,h4.old k,kr.old r k,ks.old s k⟩,fun ⟨a,b,c,d,x,y,e,h,h2,h3,h4,r,s⟩ f=>⟨a,b,c,d,x,y,e,h.fr f,h2.fr f,h3.fr f,h4.fr f,kr.fr r f,ks.fr s f⟩⟩
end
theorem q77 (m:Nat) {Rs:Nat->Rel} (kr:∀ j,j<m->KpC (Rs j)):KpC (qa7 m Rs):=⟨fun ⟨a,oa,oc,Vs,e,h,h2,h3,h4⟩ k=>⟨a,oa,oc,Vs,e,h.old k,h2.less k,fun j hj=>(kr j hj).old (h3 j hj) k,h4⟩,fun ⟨a,oa,oc,Vs,e,h,h2,h3,h4⟩ f=>⟨a,oa,oc,Vs,e,h.fr f,h2.fr f,fun j hj=>(kr j hj).fr (h3 j hj) f,h4⟩⟩
theorem qd8 (m:Nat) {Rs:Nat->Rel} (kr:∀ j,j<m->KpC (Rs j)):KpC (IsBk m Rs):=⟨fun ⟨a,g,gc,Vs,e,h,h1,h2,h3⟩ k=>⟨a,g,gc,Vs,e,h.old k,Nat.le_trans k h1,h2,fun j hj=>⟨(h3 j hj).1,(kr j hj).old (h3 j hj).2 k⟩⟩,fun ⟨a,g,gc,Vs,e,h,h1,h2,h3⟩ f=>⟨a,g,gc,Vs,e,h.fr f,h1,Nat.lt_of_lt_of_le h2 f.s,fun j hj=>⟨(World.cell?_of_block (a:=⟨g,j,none⟩) (f.k g h1 h2)).trans (h3 j hj).1,(kr j hj).fr (h3 j hj).2 f⟩⟩⟩
def litD (d:ND):VD:=if d.k=23 then inD d.n else ⟨8,d.n,0,⟨#[]⟩,0⟩
theorem zr1 (n:Int) (w:World):Calls Tryz.prog 280 #[.int .i64 n] w fun e w'=>e=.returned (VD.v ⟨8,n,0,⟨#[]⟩,0⟩)/\Below w.heap.size w w':=by
 go_enter Tryz.func280,Tryz.ntmps280
 go_wp2_with fail
 exact bodyPost_ret (v:=vOf 8 n 0 ⟨#[]⟩ 0) (by simp[results,Tryz.results280,go_sem]) rfl ⟨rfl,q01 _ _⟩
theorem z09 (d:ND) (x:NA) (w:World) (hk:d.k=23\/d.k=28):Calls Tryz.prog 226 #[q40 d x] w fun e w'=>e=.returned (litD d).v/\Below w.heap.size w w':=by
 obtain ⟨k,hd⟩:∃ k,d.k=k:=⟨_,rfl⟩
 unfold litD
 rw[hd] at hk ⊢
 rcases hk with rfl|rfl
 ·rw[if_pos rfl]
  go_enter Tryz.func226,Tryz.ntmps226
  go_wp2_with fail
  refine (qn9 d.n _).mono ?_
  rintro e w1 ⟨rfl,hb⟩
  have hO:=zk6 hb
  have r0:=hO.1.cell 0 rfl
  have r1:=hO.1.cell 1 rfl
  have r2:=hO.1.cell 2 rfl
  have r3:=hO.1.cell 3 rfl
  have r4:=hO.1.cell 4 rfl
  have rz:=hO.2
  have HB:Hid (Below w.heap.size w w1):=q02 (q04 _ _ _) hb
  clear hb hO
  go_wp2_with fail
  exact bodyPost_ret (v:=vOf 2 d.n 0 ⟨#[]⟩ 0) (by simp[results,Tryz.results226,go_sem,r0,r1,r2,r3,r4]) rfl ⟨rfl,set5 HB.out (Nat.le_succ _) _ _ _ _ _⟩
 ·rw[if_neg (by omega)]
  go_enter Tryz.func226,Tryz.ntmps226
  go_wp2_with fail
  refine (zr1 d.n _).mono ?_
  rintro e w1 ⟨rfl,hb⟩
  have hO:=zk6 hb
  have r0:=hO.1.cell 0 rfl
  have r1:=hO.1.cell 1 rfl
  have r2:=hO.1.cell 2 rfl
  have r3:=hO.1.cell 3 rfl
  have r4:=hO.1.cell 4 rfl
  have rz:=hO.2
  have HB:Hid (Below w.heap.size w w1):=q02 (q04 _ _ _) hb
  clear hb hO
  go_wp2_with fail
  exact bodyPost_ret (v:=vOf 8 d.n 0 ⟨#[]⟩ 0) (by simp[results,Tryz.results226,go_sem,r0,r1,r2,r3,r4]) rfl ⟨rfl,set5 HB.out (Nat.le_succ _) _ _ _ _ _⟩
theorem qi8 (M bb:Nat) (d:FD) (x:FA) (i:Nat) (w:World) (h:BB M bb d x w) (hi:i<d.nn) (hk:(d.nd i).k=23\/(d.nd i).k=28) :
  Calls Tryz.prog 176 #[ptr bb,.int .i64 (i:Int)] w fun e w'=>Mks (qt1 (litD (d.nd i))) w e w':=by
 have HB:Hid (BB M bb d x w):=h
 have b1:=h.b.cell 1 rfl
 have hbl:=h.b.1
 obtain ⟨b,off,e1,hb,c0,c1,c2,c3,c4,c5,c6,c7⟩:=h.node hi
 rw[e1] at b1
 have HK:Hid ((d.nd i).k=23\/(d.nd i).k=28):=hk
 clear h
 obtain ⟨k,hd⟩:∃ k,(d.nd i).k=k:=⟨_,rfl⟩
 rw[hd] at c0 hk
 have hmf:=q56
 rcases hk with rfl|rfl
 all_goals
  have hl:=fun W=>z09 (d.nd i) (x.nas i) W HK.out
  simp only[q40,hd] at hl
  go_enter Tryz.func176,Tryz.ntmps176
  go_wp2_with fail
  refine (hl _).mono ?_
  rintro e w1 ⟨rfl,hb1⟩
  have HW:Hid (Below w.heap.size w w1):=q02 (q04 _ _ _) hb1
  clear hb1 hl c0 c1 c2 c3 c4 c5 c6 c7 b1 hbl
  go_wp2_with fail
  go_ret
  exact ⟨_,_,_,rfl,⟨w1.heap.size,rfl,HW.out.size,Has.new _ _ _⟩,HW.out.alloc HW.out.size _⟩
theorem z30 (M bb:Nat) (d:FD) (x:FA) (i:Nat) (w:World) (h:BB M bb d x w) (hi:i<d.nn) (hk:(d.nd i).k=26) (hr:0<(d.nd i).rn) :
  Calls Tryz.prog 176 #[ptr bb,.int .i64 (i:Int)] w fun e w'=>Mks (qt0 ((d.nd i).r 0)) w e w':=by
 have b1:=h.b.cell 1 rfl
 have hbl:=h.b.1
 obtain ⟨b,off,e1,hb,c0,c1,c2,c3,c4,c5,c6,c7⟩:=h.node hi
 obtain ⟨rb,ro,e2,_,hrb,d0⟩:=cells1 (h.n.2 i hi).1 hr
 simp only[Nat.add_zero] at d0
 rw[e1] at b1
 rw[e2] at c6
 rw[hk] at c0
 clear h
 have hmf:=q56
 go_enter Tryz.func176,Tryz.ntmps176
 go_wp2_with fail
 go_ret
 refine ⟨_,_,_,rfl,⟨w.heap.size+1 + 1,rfl,by omega,?_⟩,q39 _ _ _ _⟩
 have h3:=Has.new ((w.alloc (.cells #[ptr bb] 108)).alloc (.cells #[.int .i64 26,.int .i64 (d.nd i).l,.int .i64 (d.nd i).o,.int .i64 (d.nd i).n,.float .f64 (d.nd i).f,.string (d.nd i).s,.slice (some ⟨rb,ro,none⟩) (d.nd i).rn (x.nas i).rc,.slice (x.nas i).ka (d.nd i).kn (x.nas i).kc] 51)) #[.int .i64 ((d.nd i).r 0)] 3
 rw[World.size_alloc,World.size_alloc] at h3
 exact h3
end Go.Proofs.YtaimofjekgnieaaGreatDoor
namespace Go.Proofs.YtaimofjekgnieaaGreatDoor
open Go.RowKit
attribute [local go_sem] q00
attribute [local go_sem ↓] Go.wp_at_zero Go.wp_at_succ
attribute [local go_sem] q45
structure OnS (t:TypeId) (w:World) (B:Nat) (Rs:Nat->Rel) (k:Nat) (oa:Option Addr) (oc:Nat) (Vs:Nat->Value) (u:World):Prop where
 b:OwnB u B #[.slice oa k oc]
 r:u.ownsRow (w.heap.size+1) t 1 (.slice oa k oc) k ((List.range k).map Vs)
 l:∀ j,j<k->∃ (n:Nat) (u1:World),Rs j (Vs j) n u1/\w.heap.size<n/\Fr n u1.heap.size u1 u/\u1.heap.size<=u.heap.size/\(∀ q,bkOf oa=some q->q<n\/u1.heap.size<=q)/\B<n
 z:k=0->oa=none/\oc=0
 k:Below w.heap.size w u
theorem OnS.call {t:TypeId} {w:World} {B:Nat} {Rs:Nat->Rel} {k:Nat} {oa:Option Addr} {oc:Nat} {Vs:Nat->Value} {u u':World} (h:OnS t w B Rs k oa oc Vs u) (hb:Below u.heap.size u u'):OnS t w B Rs k oa oc Vs u':=
 ⟨h.b.block hb.size (hb.block _ h.b.1.1),q18 h.r hb,fun j hj=>by
  obtain ⟨n,u1,h1,h2,h3,h4,h5,h6⟩:=h.l j hj
  exact ⟨n,u1,h1,h2,h3.call (Nat.le_refl _) hb,Nat.le_trans h4 hb.size,h5,h6⟩,h.z,q02 h.k hb⟩
theorem OnS.mid {t:TypeId} {w:World} {B:Nat} {Rs:Nat->Rel} {k:Nat} {oa:Option Addr} {oc:Nat} {Vs:Nat->Value} {u w7:World} (h:OnS t w B Rs k oa oc Vs u) (hB:w.heap.size=B) (hg:u.grownBy w7 (Value.slice oa k oc).ownBlock):OwnB w7 B #[.slice oa k oc]:=by
 rw[q08] at hg
 exact h.b.block hg.size (hg.block _ h.b.1.1 (fun e=>by have:=(q09 h.r e.symm).1;omega))
theorem OnS.push {t:TypeId} {w:World} {B:Nat} {Rs:Nat->Rel} {k:Nat} {oa:Option Addr} {oc:Nat} {Vs:Nat->Value} {u w7:World} (h:OnS t w B Rs k oa oc Vs u) (hB:w.heap.size=B) {V v':Value} {n:Nat} {u1:World} (hn1:Rs k V n u1) (hn2:w.heap.size<n) (hn3:Fr n u1.heap.size u1 u) (hn4:u1.heap.size<=u.heap.size) (hn5:∀ q,bkOf oa=some q->q<n\/u1.heap.size<=q) (hn6:B<n)
  (ho:w7.ownsRow (w.heap.size+1) t 1 v' (k+1) (((List.range k).map Vs)++[V])) (hg:u.grownBy w7 (Value.slice oa k oc).ownBlock) (hat:v'.ownBlock=(Value.slice oa k oc).ownBlock\/v'.ownBlock=some u.heap.size) :
  ∃ oa' oc',v'=.slice oa' (k+1) oc'/\OnS t w B Rs (k+1) oa' oc' (fun j=>if j=k then V else Vs j) (w7.setCell ⟨B,0,none⟩ v'):=by
 obtain ⟨oa',oc',rfl⟩:=q33 ho
 rw[q08] at hg
 rw[q08,q08] at hat
 have hne:∀ q,bkOf oa'=some q->q≠B:=fun q e=>by have:=(q09 ho e).1;omega
 have hneo:bkOf oa≠some B:=fun e=>by have:=(q09 h.r e).1;omega
 have hmv:∀ {n:Nat} {u1:World},Fr n u1.heap.size u1 u->u1.heap.size<=u.heap.size->(∀ q,bkOf oa=some q->q<n\/u1.heap.size<=q)->B<n->Fr n u1.heap.size u1 (w7.setCell ⟨B,0,none⟩ (.slice oa' (k+1) oc'))/\u1.heap.size<=(w7.setCell ⟨B,0,none⟩ (.slice oa' (k+1) oc')).heap.size/\(∀ q,bkOf oa'=some q->q<n\/u1.heap.size<=q):=fun hf hs h2 h3=>by
  refine ⟨⟨by have:=hg.size;simp;omega,fun q q1 q2=>?_⟩,by have:=hg.size;simp;omega,fun q e=>?_⟩
  ·refine (Below.heap_setCell _ ⟨B,0,none⟩ _ q (by show q≠B;omega)).trans ((hg.block q (by omega) (fun e=>?_)).trans (hf.k q q1 q2))
   rcases h2 q e.symm with c|c<;>omega
  ·rcases hat with c|c
   ·exact h2 q (c.symm.trans e)
   ·rw[c] at e;have:=Option.some.inj e;omega
 refine ⟨oa',oc',rfl,?_,?_,fun j hj=>?_,fun e=>absurd e (by omega),?_⟩
 ·have h1:OwnB w7 B #[.slice oa k oc]:=h.b.block hg.size (hg.block _ h.b.1.1 (fun e=>hneo e.symm))
  exact h1.set (o:=0) (by show 0<1;omega) _
 ·refine q16 ?_ _ (fun q e=>hne q ((q08 _ _ _).symm.trans e))
  have e:((List.range (k+1)).map fun j=>if j=k then V else Vs j)=((List.range k).map Vs)++[V]:=by
   rw[List.range_succ,List.map_append]
   congr 1
   ·refine List.map_congr_left fun j hj=>?_
    have:j<k:=by simpa using hj
    rw[if_neg (by omega)]
   ·simp
  rw[e]
  exact ho
 ·by_cases c:j=k
  ·subst c
   rw[if_pos rfl]
   obtain ⟨m1,m2,m3⟩:=hmv hn3 hn4 hn5 hn6
   exact ⟨n,u1,hn1,hn2,m1,m2,m3,hn6⟩
  ·rw[if_neg c]
   obtain ⟨n,u1,h1,h2,h3,h4,h5,h6⟩:=h.l j (by omega)
   obtain ⟨m1,m2,m3⟩:=hmv h3 h4 h5 h6
   exact ⟨n,u1,h1,h2,m1,m2,m3,h6⟩
 ·exact (h.k.grown hg h.k.size (fun q e=>by have:=(q09 h.r e).1;omega)).setCell (by show w.heap.size<=B;omega) _
theorem zg1 (bb:Nat) (Rs:Nat->Rel) (a:Option Addr) (n cap:Nat) (ks:Nat->Nat) (w:World) (kp:∀ j,j<n->KpC (Rs j)) (hn:n<=200) (hk:∀ j,j<n->SubC 176 bb w (ks j) (Rs j)) (hR:RowN 1 0 w a n fun j=>#[.int .i64 (ks j:Int)]) :
  Calls Tryz.prog 201 #[ptr bb,.slice a n cap] w fun e w'=>Mks (qa7 n Rs) w e w':=by
 have HKp:Hid (∀ j,j<n->KpC (Rs j)):=kp
 have HK:Hid (∀ j,j<n->SubC 176 bb w (ks j) (Rs j)):=hk
 have HR:Hid (RowN 1 0 w a n fun j=>#[.int .i64 (ks j:Int)]):=hR
 have hmf:=q56
 clear hk hR kp
 go_enter Tryz.func201,Tryz.ntmps201
 go_wp2_with fail
 obtain ⟨B,hB⟩:∃ B,w.heap.size=B:=⟨_,rfl⟩
 have H0:Hid (OnS 268 w B Rs 0 none 0 (fun _=>.bool false) (w.alloc (.cells #[.slice none 0 0] 330))):=by
  rw[<-hB]
  exact ⟨OwnB.new _ _ _,World.ownsRow_nil _ _ _ _,fun j hj=>by omega,fun _=>⟨rfl,rfl⟩,q01 _ _⟩
 have HBe:Hid (w.heap.size=B):=hB
 rw[hB]
 clear hB
 go_loopw [10] (fun i wr=>∃ (k:Nat) (oa:Option Addr) (oc:Nat) (Vs:Nat->Value),k<=n/\i=.int .i64 k/\Hid (OnS 268 w B Rs k oa oc Vs wr)) (fun i _=>n-(intOf i).toNat)
 case atStart=>exact ⟨0,none,0,fun _=>.bool false,Nat.zero_le _,rfl,H0⟩
 case round=>
  clear H0
  obtain ⟨k,oa,oc,Vs,hk,rfl,HO⟩:=hrel
  by_cases hkn:k<n
  ·obtain ⟨rb,ro,e2,_,hrb,d0⟩:=cells1 (RowN.below HR.out HO.out.k) hkn
   rw[e2]
   have b0:=HO.out.b.1.cell 0 rfl
   have bz:=HO.out.b.2
   have hBl:=HO.out.b.1.1
   go_upto_region 5 with fail
   have HSk:Hid (Calls Tryz.prog 176 #[ptr bb,.int .i64 (ks k:Int)] wr.drew fun e u'=>Mks (Rs k) wr.drew e u'):=HK.out k hkn _ HO.out.k.drew
   obtain ⟨i0,hi0,hy0,hy1,hy2⟩:=info_parts zh4
   have heg:=enters_of Tryz.func176 (by kernel_rfl) rfl
   go_region_law (first
    |(refine qj6 (by rfl) 176 _ _ _ _ (by rfl) (ptr bb) (.int .i64 (ks k:Int)) (by rfl) (by rfl) heg _ HSk.out ?_;rintro e w1 ⟨ff,fx,fy,rfl,hn1,hb1⟩;refine ⟨_,rfl,?_⟩;have HO1:Hid (OnS 268 w B Rs k oa oc Vs (w1.alloc (.cells #[.func ff fx fy] 268))):=((HO.out.call (Below.refl _ _).drew).call hb1).call (q01 _ _);obtain ⟨v',w7,happ,hown,hgrow,_,hat⟩:=run_append_own_at (P:=Tryz.prog) (w1.alloc (.cells #[.func ff fx fy] 268)) (w.heap.size+1) 330 330 268 i0 _ 1 8 Tryz.underlying330 hi0 hy0 hy1 hy2 rfl (by decide) (.slice oa k oc) k ((List.range k).map Vs) HO1.out.r ⟨w1.heap.size,0,none⟩ 1 1 [.func ff fx fy] rfl (cell_one_new _ _ _) (by simp[Value.oneCell']) (by unfold maxLen;omega) (by omega) (by have:=HO1.out.b.1.1;have:=HBe.out;omega);obtain ⟨oa',oc',rfl,hp⟩:=HO1.out.push HBe.out hn1 (by have h9:=HBe.out;have h8:B<wr.drew.heap.size:=hBl;omega) ((Fr.refl _ _ _).alloc (Nat.le_refl _) _) (by simp) (fun q e=>.inl (q09 HO.out.r e).2) (by have h8:B<wr.drew.heap.size:=hBl;exact h8) hown hgrow hat;have HN:Hid (OnS 268 w B Rs (k+1) oa' oc' (fun j=>if j=k then .func ff fx fy else Vs j) (w7.setCell ⟨B,0,none⟩ (.slice oa' (k+1) oc'))):=hp;have b01:=((HO.out.call (Below.refl _ _).drew).call hb1).b.1.cell 0 rfl;have hl01:=((HO.out.call (Below.refl _ _).drew).call hb1).b.1.1;have b0':=HO1.out.b.1.cell 0 rfl;have hm7:=HO1.out.mid HBe.out hgrow;have b7:=hm7.1.cell 0 rfl;have z7:=hm7.2;clear hown hgrow hat hp hn1 hb1 hm7)
    |(refine q84 (by rfl) _ _ _ _ (by rfl) (.slice oa k oc) (.slice (some ⟨w1.heap.size,0,none⟩) 1 1) _ _ (by rfl) (by rfl) happ ?_))
   all_goals
    clear HO HO1 HSk
    go_wp2_with fail
    go_roundw
    case rel=>exact ⟨k+1,oa',oc',_,by omega,by go_num,HN⟩
    case measure=>simp[intOf];omega
  ·obtain rfl:k=n:=by omega
   go_wp2_with fail
   go_ret
   refine ⟨_,_,_,rfl,⟨B,oa,oc,Vs,rfl,⟨Nat.le_of_eq HBe.out,HO.out.b.1⟩,fun h0=>?_,fun j hj=>?_,HO.out.z⟩,HO.out.k⟩
   ·rcases HO.out.r.2 with ⟨_,h1⟩|⟨g,c,cur,e,h1,h2,_⟩
    ·omega
    ·cases e
     refine ⟨g,0,rfl,by omega,(Array.getElem?_eq_some_iff.1 h2).1,fun i hi j hj=>?_⟩
     obtain rfl:j=0:=by omega
     have:=HO.out.r.cells (g:=g) rfl i (Vs i) (by simp[hi])
     rw[show 0+i*1+0=i by omega]
     cases i<;>simpa[Addr.add] using this
   ·obtain ⟨n,u1,h1,h2,h3,h4,h5,h6⟩:=HO.out.l j hj
    exact (HKp.out j hj).old ((HKp.out j hj).fr h1 h3) (by omega)
end Go.Proofs.YtaimofjekgnieaaGreatDoor
