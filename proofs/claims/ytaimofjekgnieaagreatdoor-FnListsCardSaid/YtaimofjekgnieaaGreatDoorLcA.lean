import Derived.Test.YtaimofjekgnieaaGreatDoorQbA
import Derived.Test.YtaimofjekgnieaaGreatDoorDrwA
set_option maxRecDepth 100000
set_option maxHeartbeats 16000000
namespace Go.Proofs.YtaimofjekgnieaaGreatDoor
open Go.RowKit
structure LBI where
 N:Nat
 B:Nat
 C:Nat
 F:Nat
 K:Nat
 fc:Nat
 kc:Nat
 nf:Nat
 f:Nat
 nk:Nat
 A0:Array Value
 K0:Array Value
abbrev LBI.fo (I:LBI):Nat:=I.f*7
abbrev LBI.ko (I:LBI):Nat:=(I.nk-1)*5
structure LBI.ok (I:LBI):Prop where
 b:I.B<I.N
 c:I.C<I.N
 f:I.F<I.N
 k:I.K<I.N
 bc:I.B≠I.C
 bf:I.B≠I.F
 bk:I.B≠I.K
 cf:I.C≠I.F
 ck:I.C≠I.K
 fk:I.F≠I.K
 hf:I.f<I.nf
 hk:1<=I.nk
 m:I.nf<=2/\I.nk<=2
structure LBS where
 lf:Int
 ln:Int
 A:Nat
 va:Option Addr
 vc:Nat
 vl:List Value
 l:List (ND×NA)
 na:Option Addr
 nc:Nat
 sc:Value
def n8 (p:ND×NA):List Value:=(q24 p.1 p.2).toList
def nLs (l:List (ND×NA)):List Value:=l.flatMap n8
def rOk (I:LBI) (S:LBS) (u:World) (a:Option Addr) (n:Nat) (q:Nat->Int):Prop:=q51 0 u a n q/\∀ b,a=some b->I.N<=b.block/\b.block<u.heap.size/\bkOf S.na≠some b.block/\bkOf S.va≠some b.block
def FnB (I:LBI) (u:World) (va na:Value):Prop:=∃ A,OwnB u I.F A/\A[I.fo+4]?=some va/\A[I.fo+6]?=some na/\∀ o,o≠I.fo+4->o≠I.fo+6->A[o]?=I.A0[o]?
def KxB (I:LBI) (u:World) (ln:Int) (sc:Value):Prop:=∃ A,OwnB u I.K A/\A[I.ko]?=some (.int .i64 (I.f:Int))/\A[I.ko+1]?=some sc/\A[I.ko+4]?=some (.int .i64 ln)/\∀ o,o<I.ko->A[o]?=I.K0[o]?
structure LB (I:LBI) (S:LBS) (u:World):Prop where
 i:I.ok
 b:OwnB u I.B #[ptr I.C,.slice (some ⟨I.F,0,none⟩) I.nf I.fc,.slice (some ⟨I.K,0,none⟩) I.nk I.kc,.int .i64 S.lf]
 c:CU I.C none 0 0 S.A u
 f:FnB I u (.slice S.va S.vl.length S.vc) (.slice S.na S.l.length S.nc)
 k:KxB I u S.ln S.sc
 r:u.ownsRow I.N 51 8 (.slice S.na S.l.length S.nc) S.l.length (nLs S.l)
 v:u.ownsRow I.N 9 1 (.slice S.va S.vl.length S.vc) S.vl.length S.vl
 x:∀ p,p∈S.l->rOk I S u p.2.ra p.1.rn p.1.r/\rOk I S u p.2.ka p.1.kn p.1.c/\p.1.kn<=p.2.kc
 n:I.N<=u.heap.size
section
variable {I:LBI} {S:LBS} {u u':World}
theorem rOk.call {a:Option Addr} {n:Nat} {q:Nat->Int} (h:rOk I S u a n q) (hb:Below u.heap.size u u'):rOk I S u' a n q:=⟨RowN.below h.1 hb,fun b e=>⟨(h.2 b e).1,Nat.lt_of_lt_of_le (h.2 b e).2.1 hb.size,(h.2 b e).2.2⟩⟩
theorem rOk.gx {a:Option Addr} {n:Nat} {q:Nat->Int} {T:Nat->Prop} {S':LBS} (h:rOk I S u a n q) (g:Gx T u u') (hT:∀ k,T k->k<I.N\/bkOf S.na=some k\/bkOf S.va=some k) (hs:∀ k,k<u.heap.size->(bkOf S'.na=some k->bkOf S.na=some k)/\(bkOf S'.va=some k->bkOf S.va=some k)):rOk I S' u' a n q:=by
 have hT':∀ b,a=some b->¬T b.block:=fun b e t=>by
  obtain ⟨h1,h2,h3,h4⟩:=h.2 b e
  rcases hT _ t with c|c|c
  ·omega
  ·exact h3 c
  ·exact h4 c
 refine ⟨fun h0=>?_,fun b e=>⟨(h.2 b e).1,Nat.lt_of_lt_of_le (h.2 b e).2.1 g.size,fun c=>(h.2 b e).2.2.1 ((hs _ (h.2 b e).2.1).1 c),fun c=>(h.2 b e).2.2.2 ((hs _ (h.2 b e).2.1).2 c)⟩⟩
 obtain ⟨b,off,e,h1,h2,h3⟩:=h.1 h0
 exact ⟨b,off,e,h1,Nat.lt_of_lt_of_le h2 g.size,fun i hi j hj=>(World.cell?_of_block (a:=⟨b,off+i*1+j,none⟩) (g.block b h2 (hT' _ e))).trans (h3 i hi j hj)⟩
theorem LB.call (h:LB I S u) (hb:Below u.heap.size u u'):LB I S u':=by
 obtain ⟨A,a1,a2⟩:=h.f
 obtain ⟨B,b1,b2⟩:=h.k
 exact ⟨h.i,h.b.call hb,h.c.call hb,⟨A,a1.call hb,a2⟩,⟨B,b1.call hb,b2⟩,q18 h.r hb,q18 h.v hb,fun p hp=>⟨(h.x p hp).1.call hb,(h.x p hp).2.1.call hb,(h.x p hp).2.2⟩,Nat.le_trans h.n hb.size⟩
theorem LB.alloc (h:LB I S u) (o:Obj):LB I S (u.alloc o):=h.call (q01 _ _)
theorem LB.drew (h:LB I S u):LB I S u.drew:=h.call (Below.refl _ _).drew
theorem FnB.other {Q o:Nat} {va na v:Value} (h:FnB I u va na) (hn:I.F≠Q):FnB I (u.setCell ⟨Q,o,none⟩ v) va na:=by
 obtain ⟨A,h1,h2⟩:=h
 exact ⟨A,q30 h1 hn,h2⟩
theorem KxB.other {Q o:Nat} {ln:Int} {v sc:Value} (h:KxB I u ln sc) (hn:I.K≠Q):KxB I (u.setCell ⟨Q,o,none⟩ v) ln sc:=by
 obtain ⟨A,h1,h2⟩:=h
 exact ⟨A,q30 h1 hn,h2⟩
theorem KxB.set {ln z:Int} {sc:Value} (h:KxB I u ln sc):KxB I (u.setCell ⟨I.K,I.ko+4,none⟩ (.int .i64 z)) z sc:=by
 obtain ⟨A,h1,h2,h3,h4,h5⟩:=h
 have hs:I.ko+4<A.size:=(Array.getElem?_eq_some_iff.1 h4).1
 refine ⟨_,h1.set (o:=I.ko+4) hs _,?_,?_,?_,fun o ho=>?_⟩
 ·rw[Array.getElem?_setIfInBounds_ne (by omega)];exact h2
 ·rw[Array.getElem?_setIfInBounds_ne (by omega)];exact h3
 ·rw[Array.getElem?_setIfInBounds_self_of_lt hs]
 ·rw[Array.getElem?_setIfInBounds_ne (by omega)];exact h5 o ho
theorem KxB.scp {ln:Int} {sc z:Value} (h:KxB I u ln sc):KxB I (u.setCell ⟨I.K,I.ko+1,none⟩ z) ln z:=by
 obtain ⟨A,h1,h2,h3,h4,h5⟩:=h
 have hs:I.ko+1<A.size:=(Array.getElem?_eq_some_iff.1 h3).1
 refine ⟨_,h1.set (o:=I.ko+1) hs _,?_,?_,?_,fun o ho=>?_⟩
 ·rw[Array.getElem?_setIfInBounds_ne (by omega)];exact h2
 ·rw[Array.getElem?_setIfInBounds_self_of_lt hs]
 ·rw[Array.getElem?_setIfInBounds_ne (by omega)];exact h4
 ·rw[Array.getElem?_setIfInBounds_ne (by omega)];exact h5 o ho
theorem FnB.set6 {va na v:Value} (h:FnB I u va na):FnB I (u.setCell ⟨I.F,I.fo+6,none⟩ v) va v:=by
 obtain ⟨A,h1,a4,a6,a0⟩:=h
 have hs:I.fo+6<A.size:=(Array.getElem?_eq_some_iff.1 a6).1
 refine ⟨_,h1.set (o:=I.fo+6) hs _,?_,?_,fun o o1 o2=>?_⟩
 ·rw[Array.getElem?_setIfInBounds_ne (by omega)];exact a4
 ·rw[Array.getElem?_setIfInBounds_self_of_lt hs]
 ·rw[Array.getElem?_setIfInBounds_ne (by omega)];exact a0 o o1 o2
theorem FnB.set4 {va na v:Value} (h:FnB I u va na):FnB I (u.setCell ⟨I.F,I.fo+4,none⟩ v) v na:=by
 obtain ⟨A,h1,a4,a6,a0⟩:=h
 have hs:I.fo+4<A.size:=(Array.getElem?_eq_some_iff.1 a4).1
 refine ⟨_,h1.set (o:=I.fo+4) hs _,?_,?_,fun o o1 o2=>?_⟩
 ·rw[Array.getElem?_setIfInBounds_self_of_lt hs]
 ·rw[Array.getElem?_setIfInBounds_ne (by omega)];exact a6
 ·rw[Array.getElem?_setIfInBounds_ne (by omega)];exact a0 o o1 o2
theorem FnB.block {va na:Value} (h:FnB I u va na) (hs:u.heap.size<=u'.heap.size) (hk:u'.heap[I.F]?=u.heap[I.F]?):FnB I u' va na:=by
 obtain ⟨A,h1,h2⟩:=h
 exact ⟨A,h1.block hs hk,h2⟩
theorem KxB.block {ln:Int} {sc:Value} (h:KxB I u ln sc) (hs:u.heap.size<=u'.heap.size) (hk:u'.heap[I.K]?=u.heap[I.K]?):KxB I u' ln sc:=by
 obtain ⟨A,h1,h2⟩:=h
 exact ⟨A,h1.block hs hk,h2⟩
theorem FnB.cell {va na:Value} (h:FnB I u va na):u.cell? ⟨I.F,I.fo+4,none⟩=some va/\u.cell? ⟨I.F,I.fo+6,none⟩=some na/\(∀ o,u.frozen? ⟨I.F,o,none⟩=false)/\I.F<u.heap.size:=by
 obtain ⟨A,h1,a4,a6,a0⟩:=h
 exact ⟨(h1.1.2 (I.fo+4)).trans a4,(h1.1.2 (I.fo+6)).trans a6,h1.2,h1.1.1⟩
theorem KxB.cell {ln:Int} {sc:Value} (h:KxB I u ln sc):u.cell? ⟨I.K,I.ko,none⟩=some (.int .i64 (I.f:Int))/\u.cell? ⟨I.K,I.ko+4,none⟩=some (.int .i64 ln)/\(∀ o,u.frozen? ⟨I.K,o,none⟩=false)/\I.K<u.heap.size/\u.cell? ⟨I.K,I.ko+1,none⟩=some sc:=by
 obtain ⟨A,h1,a0,a1,a4,_⟩:=h
 exact ⟨(h1.1.2 I.ko).trans a0,(h1.1.2 (I.ko+4)).trans a4,h1.2,h1.1.1,(h1.1.2 (I.ko+1)).trans a1⟩
end
structure Lx (I:LBI) (S:LBS) (u:World) (S':LBS) (u':World):Prop where
 s:LB I S' u'
 g:Gx (fun k=>k<I.N/\(k=I.B\/k=I.C\/k=I.F\/k=I.K)\/bkOf S.na=some k\/bkOf S.va=some k) u u'
 m:∀ k,k<u.heap.size->(bkOf S'.na=some k->bkOf S.na=some k)/\(bkOf S'.va=some k->bkOf S.va=some k)
theorem Lx.below {I:LBI} {S:LBS} {u u':World} (h:LB I S u) (hb:Below u.heap.size u u'):Lx I S u S u':=⟨h.call hb,Gx.below _ hb,fun _ _=>⟨fun e=>e,fun e=>e⟩⟩
theorem Lx.trans {I:LBI} {S S' S'':LBS} {u u' u'':World} (h:Lx I S u S' u') (k:Lx I S' u' S'' u''):Lx I S u S'' u'':=by
 refine ⟨k.s,h.g.trans k.g (fun i hi e=>?_),fun i hi=>⟨fun e=>(h.m i hi).1 ((k.m i (Nat.lt_of_lt_of_le hi h.g.size)).1 e),fun e=>(h.m i hi).2 ((k.m i (Nat.lt_of_lt_of_le hi h.g.size)).2 e)⟩⟩
 rcases e with e|e|e
 ·exact .inl e
 ·exact .inr (.inl ((h.m i hi).1 e))
 ·exact .inr (.inr ((h.m i hi).2 e))
theorem Lx.row {I:LBI} {S S':LBS} {u u':World} (h:Lx I S u S' u') {a:Option Addr} {n:Nat} {q:Nat->Int} (k:rOk I S u a n q):rOk I S' u' a n q:=k.gx h.g (fun i e=>by
 rcases e with e|e|e
 ·exact .inl e.1
 ·exact .inr (.inl e)
 ·exact .inr (.inr e)) h.m
end Go.Proofs.YtaimofjekgnieaaGreatDoor
namespace Go.Proofs.YtaimofjekgnieaaGreatDoor
open Go.RowKit
attribute [local go_sem] q00
attribute [local go_sem ↓] Go.wp_at_zero Go.wp_at_succ
abbrev pA (B o:Nat):Value:=.pointer (some ⟨B,o,none⟩)
theorem q82 (I:LBI) (S:LBS) (u:World) (h:LB I S u) :
  Calls Tryz.prog 29 #[ptr I.B] u fun e w'=>e=.returned (pA I.K I.ko)/\Below u.heap.size u w':=by
 have b2:u.cell? ⟨I.B,2,none⟩=some (.slice (some ⟨I.K,0,none⟩) I.nk I.kc):=h.b.1.cell 2 rfl
 have hbl:=h.b.1.1
 have hk:=h.i.hk
 have hm:=h.i.m.2
 have HS:Hid (I.ko=(I.nk-1)*5):=rfl
 clear h
 rw[HS.out]
 generalize I.nk=nk at *
 rcases (show nk=1\/nk=2 by omega) with rfl|rfl
 all_goals
  clear hk hm
  go_enter Tryz.func29,Tryz.ntmps29
  go_upto_region 1 with fail
  go_region_with fail
  all_goals
   go_wp2_with fail
   go_ret
   first
   |exact ⟨rfl,(Below.refl _ _).drew⟩
   |exact ⟨rfl,Below.refl _ _⟩
theorem qb7 (I:LBI) (S:LBS) (u:World) (h:LB I S u) :
  Calls Tryz.prog 34 #[ptr I.B] u fun e w'=>e=.returned (pA I.F I.fo)/\Below u.heap.size u w':=by
 have HL:Hid (LB I S u):=h
 have hbl:=h.b.1.1
 have hi0:(0:Int)<=(I.f:Int):=Int.natCast_nonneg _
 have hi1:(I.f:Int)<(I.nf:Int):=by have:=h.i.hf;omega
 have HC:Hid (∀ w,Below u.heap.size u w->w.cell? ⟨I.B,1,none⟩=some (.slice (some ⟨I.F,0,none⟩) I.nf I.fc)/\w.cell? ⟨I.K,I.ko,none⟩=some (.int .i64 (I.f:Int))):=fun w hw=>⟨(h.b.call hw).1.cell 1 rfl,(h.call hw).k.cell.1⟩
 clear h
 go_enter Tryz.func34,Tryz.ntmps34
 go_upto_region 1 with fail
 go_region_held3 (fun w=>w.cell? ⟨I.B,1,none⟩=some (.slice (some ⟨I.F,0,none⟩) I.nf I.fc)/\w.cell? ⟨I.K,I.ko,none⟩=some (.int .i64 (I.f:Int))) (first|(refine HC.out _ ?_;(repeat (first|exact HB1.out|exact q20 _|refine q22 ?_));done))
  (first|(go_at_call 29;refine (q82 I S _ ?_).mono ?_;(first|exact HL.out|exact HL.out.drew);rintro e w1 ⟨rfl,hb⟩;have HB1:Hid (Below u.heap.size u w1):=q02 (q22 (q20 u)) hb;clear hb))
 all_goals
  go_wp2_with fail
  go_ret
  refine ⟨?_,HB1.out⟩
  first
  |rfl
  |(show _=Ending.returned (pA I.F (I.f*7));congr 4;omega)
theorem zy6:(Tryz.prog.info? 51).map (fun i=>(i.zero,i.size,i.bytes))=some (some (.agg #[.int .i64 0,.int .i64 0,.int .i64 0,.int .i64 0,.float .f64 0,.string ⟨#[]⟩,.slice none 0 0,.slice none 0 0]),8,104):=by kernel_rfl
theorem yl6 (p:ND×NA):∀ y∈n8 p,y.oneCell'=true:=by simp[n8,Value.oneCell']
theorem LB.left {I:LBI} {S:LBS} {u:World} (h:LB I S u) (z:Int):Lx I S u {S with lf:=z} (u.setCell ⟨I.B,3,none⟩ (.int .i64 z)):=by
 have hi:=h.i
 have hB:∀ k,I.N<=k->k≠I.B:=fun k hk e=>by have:=hi.b;omega
 have g:Gx (fun k=>k=I.B) u (u.setCell ⟨I.B,3,none⟩ (.int .i64 z)):=Gx.set u I.B 3 _
 refine ⟨⟨hi,h.b.set (o:=3) (by show 3<4;omega) _,?_,h.f.other hi.bf.symm,h.k.other hi.bk.symm,q16 h.r _ fun k e=>hB k (q09 h.r ((q08 _ _ _).symm.trans e)).1,q16 h.v _ fun k e=>hB k (q09 h.v ((q08 _ _ _).symm.trans e)).1,fun p hp=>?_,by simpa using h.n⟩,g.mono (fun k e=>.inl (by subst e;exact ⟨hi.b,.inl rfl⟩)),fun _ _=>⟨fun e=>e,fun e=>e⟩⟩
 ·obtain ⟨t,s,h1,h2⟩:=h.c
  have hk:(u.setCell ⟨I.B,3,none⟩ (.int .i64 z)).heap[I.C]?=u.heap[I.C]?:=Below.heap_setCell _ _ _ _ hi.bc.symm
  exact ⟨t,s,h1,by simpa using h2.lt,⟨(World.cell?_of_block (a:=⟨I.C,0,none⟩) hk).trans h2.c.1,(World.cell?_of_block (a:=⟨I.C,1,none⟩) hk).trans h2.c.2.1,(World.cell?_of_block (a:=⟨I.C,2,none⟩) hk).trans h2.c.2.2⟩,fun o=>(World.frozen?_of_block (a:=⟨I.C,o,none⟩) hk).trans (h2.fr o),fun i hi=>absurd hi (Nat.not_lt_zero _)⟩
 ·obtain ⟨x1,x2,x3⟩:=h.x p hp
  have hq:∀ {a:Option Addr} {n:Nat} {q:Nat->Int},rOk I S u a n q->rOk I {S with lf:=z} (u.setCell ⟨I.B,3,none⟩ (.int .i64 z)) a n q:=fun r=>r.gx g (fun k e=>.inl (by subst e;exact hi.b)) (fun _ _=>⟨fun e=>e,fun e=>e⟩)
  exact ⟨hq x1,hq x2,x3⟩
def LBS.add (S:LBS) (p:ND×NA) (na:Option Addr) (nc:Nat):LBS:={S with l:=S.l++[p],na:=na,nc:=nc}
theorem LB.push {I:LBI} {S:LBS} {u w7:World} (h:LB I S u) (d:ND) (x:NA) (hr:rOk I S u x.ra d.rn d.r) (hk:rOk I S u x.ka d.kn d.c) (hc:d.kn<=x.kc) {v':Value} (ho:w7.ownsRow I.N 51 8 v' (S.l.length+1) (nLs S.l++n8 (d,x))) (hg:u.grownBy w7 (Value.slice S.na S.l.length S.nc).ownBlock) (hat:v'.ownBlock=(Value.slice S.na S.l.length S.nc).ownBlock\/v'.ownBlock=some u.heap.size) :
  ∃ na nc,v'=.slice na (S.l.length+1) nc/\Lx I S u (S.add (d,x) na nc) (w7.setCell ⟨I.F,I.fo+6,none⟩ v'):=by
 obtain ⟨na,nc,rfl⟩:=q33 ho
 rw[q08] at hg
 rw[q08,q08] at hat
 have hi:=h.i
 have hgx:Gx (fun k=>bkOf S.na=some k) u w7:=Gx.grown hg
 have hN:∀ k,bkOf S.na=some k->I.N<=k:=fun k e=>(q09 h.r e).1
 have g:Gx (fun k=>k=I.F\/bkOf S.na=some k) u (w7.setCell ⟨I.F,I.fo+6,none⟩ (.slice na (S.l.length+1) nc)):=(hgx.mono (fun k e=>.inr e)).trans (Gx.set w7 I.F (I.fo+6) _) (fun _ _ e=>.inl e)
 have hm:∀ k,k<u.heap.size->(bkOf na=some k->bkOf S.na=some k):=fun k hk e=>by
  rcases hat with c|c
  ·exact c.symm.trans e
  ·rw[c] at e;have:=Option.some.inj e;omega
 have hb:∀ k,k<I.N->w7.heap[k]?=u.heap[k]?:=fun k hk=>hgx.block k (by have:=h.n;omega) (fun e=>by have:=hN k e;omega)
 have hq:∀ {a:Option Addr} {n:Nat} {q:Nat->Int},rOk I S u a n q->rOk I (S.add (d,x) na nc) (w7.setCell ⟨I.F,I.fo+6,none⟩ (.slice na (S.l.length+1) nc)) a n q:=fun r=>r.gx g (fun k e=>by
  rcases e with e|e
  ·exact .inl (e ▸ hi.f)
  ·exact .inr (.inl e)) (fun k hk=>⟨hm k hk,fun e=>e⟩)
 have hF:∀ k,I.N<=k->k≠I.F:=fun k hk e=>by have:=hi.f;omega
 refine ⟨na,nc,rfl,⟨hi,q30 (h.b.block hgx.size (hb _ hi.b)) hi.bf,?_,?_,(h.k.block hgx.size (hb _ hi.k)).other hi.fk.symm,?_,?_,fun p hp=>?_,by have:=hgx.size;have:=h.n;simp;omega⟩,g.mono (fun k e=>?_),fun k hk=>⟨hm k hk,fun e=>e⟩⟩
 ·obtain ⟨t,s,h1,h2⟩:=h.c
  have hk:(w7.setCell ⟨I.F,I.fo+6,none⟩ (.slice na (S.l.length+1) nc)).heap[I.C]?=u.heap[I.C]?:=(Below.heap_setCell _ _ _ _ hi.cf).trans (hb _ hi.c)
  exact ⟨t,s,h1,by have:=hgx.size;have:=h2.lt;simp;omega,⟨(World.cell?_of_block (a:=⟨I.C,0,none⟩) hk).trans h2.c.1,(World.cell?_of_block (a:=⟨I.C,1,none⟩) hk).trans h2.c.2.1,(World.cell?_of_block (a:=⟨I.C,2,none⟩) hk).trans h2.c.2.2⟩,fun o=>(World.frozen?_of_block (a:=⟨I.C,o,none⟩) hk).trans (h2.fr o),fun i hi=>absurd hi (Nat.not_lt_zero _)⟩
 ·have:=(h.f.block hgx.size (hb _ hi.f)).set6 (v:=.slice na (S.l.length+1) nc)
  show FnB _ _ _ (.slice na (S.l++[(d,x)]).length nc)
  rw[List.length_append]
  exact this
 ·show World.ownsRow _ _ _ _ (.slice na (S.l++[(d,x)]).length nc) (S.l++[(d,x)]).length (nLs (S.l++[(d,x)]))
  rw[List.length_append,show nLs (S.l++[(d,x)])=nLs S.l++n8 (d,x) by simp[nLs]]
  exact q16 ho _ fun k e=>hF k (q09 ho ((q08 _ _ _).symm.trans e)).1
 ·refine q16 ?_ _ fun k e=>hF k (q09 h.v ((q08 _ _ _).symm.trans e)).1
  refine q14 h.v fun k e=>?_
  have e':=(q08 _ _ _).symm.trans e
  exact hgx.block k (q09 h.v e').2 (fun c=>q90 h.v h.r (by decide) e' c)
 ·rcases List.mem_append.1 hp with hp|hp
  ·obtain ⟨x1,x2,x3⟩:=h.x p hp
   exact ⟨hq x1,hq x2,x3⟩
  ·obtain rfl:p=(d,x):=by simpa using hp
   exact ⟨hq hr,hq hk,hc⟩
 ·rcases e with e|e
  ·exact .inl ⟨e ▸ hi.f,.inr (.inr (.inl e))⟩
  ·exact .inr (.inl e)
theorem ql6 (I:LBI) (S:LBS) (d:ND) (x:NA) (u:World) (h:LB I S u) (hr:rOk I S u x.ra d.rn d.r) (hk:rOk I S u x.ka d.kn d.c) (hc:d.kn<=x.kc) (hl:S.l.length<=200) (hf1:1000<=S.lf) (hf2:S.lf<=100000) :
  Calls Tryz.prog 17 #[ptr I.B,q40 d x] u fun e w'=>e=.returned (.int .i64 (S.l.length:Int))/\∃ na nc,Lx I S u ({S with lf:=S.lf-1}.add (d,x) na nc) w':=by
 have HL:Hid (LB I S u/\rOk I S u x.ra d.rn d.r/\rOk I S u x.ka d.kn d.c):=⟨h,hr,hk⟩
 have b3:=h.b.1.cell 3 rfl
 have bz:=h.b.2
 have hbl:=h.b.1.1
 have hw:IntKind.i64.wrap (S.lf-1)=S.lf-1:=by simp[IntKind.wrap,IntKind.bits,IntKind.signed];omega
 show Calls Tryz.prog 17 #[ptr I.B,.agg #[.int .i64 d.k,.int .i64 d.l,.int .i64 d.o,.int .i64 d.n,.float .f64 d.f,.string d.s,.slice x.ra d.rn x.rc,.slice x.ka d.kn x.kc]] u fun e w'=>e=.returned (.int .i64 (S.l.length:Int))/\∃ na nc,Lx I S u ({S with lf:=S.lf-1}.add (d,x) na nc) w'
 clear h hr hk
 go_enter Tryz.func17,Tryz.ntmps17
 go_wp2_with fail
 have H1:Hid (Lx I S u {S with lf:=S.lf-1} ((u.setCell ⟨I.B,3,none⟩ (.int .i64 (S.lf-1))).alloc (.cells #[.int .i64 d.k,.int .i64 d.l,.int .i64 d.o,.int .i64 d.n,.float .f64 d.f,.string d.s,.slice x.ra d.rn x.rc,.slice x.ka d.kn x.kc] 51))):=(HL.out.1.left (S.lf-1)).trans (Lx.below (HL.out.1.left (S.lf-1)).s (q01 _ _))
 refine (qb7 I _ _ H1.out.s).mono ?_
 rintro e w1 ⟨rfl,hb1⟩
 have H2:Hid (Lx I S u {S with lf:=S.lf-1} w1/\Has w1 u.heap.size (q24 d x)):=by
  refine ⟨H1.out.trans (Lx.below H1.out.s hb1),?_⟩
  have h9:=(Has.new (u.setCell ⟨I.B,3,none⟩ (.int .i64 (S.lf-1))) (q24 d x) 51).call hb1
  rw[World.size_setCell] at h9
  exact h9
 clear hb1 b3 bz hbl hw H1
 have f6:=H2.out.1.s.f.cell.2.1
 have fz:=H2.out.1.s.f.cell.2.2.1
 have hfl:=H2.out.1.s.f.cell.2.2.2
 have n0:=H2.out.2.cell 0 rfl
 have n1:=H2.out.2.cell 1 rfl
 have n2:=H2.out.2.cell 2 rfl
 have n3:=H2.out.2.cell 3 rfl
 have n4:=H2.out.2.cell 4 rfl
 have n5:=H2.out.2.cell 5 rfl
 have n6:=H2.out.2.cell 6 rfl
 have n7:=H2.out.2.cell 7 rfl
 have hul:u.heap.size<w1.heap.size:=H2.out.2.1
 obtain ⟨S1,hS1⟩:∃ S1,S1={S with lf:=S.lf-1}:=⟨_,rfl⟩
 obtain ⟨i0,hi0,hy0,hy1,hy2⟩:=info_parts zy6
 have HD:Hid (LB I {S with lf:=S.lf-1} (w1.alloc (.cells (q24 d x) 51)).drew):=(H2.out.1.s.alloc _).drew
 obtain ⟨v',w7,happ,hown,hgrow,_,hat⟩:=run_append_own_at (P:=Tryz.prog) (w1.alloc (.cells (q24 d x) 51)).drew I.N 89 89 51 i0 _ 8 104 Tryz.underlying89 hi0 hy0 hy1 hy2 rfl (by decide) (.slice S.na S.l.length S.nc) S.l.length (nLs S.l) HD.out.r ⟨w1.heap.size,0,none⟩ 1 1 (n8 (d,x)) rfl (q85 w1 (q24 d x) _) (yl6 _) (by unfold maxLen;omega) (by omega) (by have:=HD.out.n;exact this)
 have hrk:rOk I {S with lf:=S.lf-1} (w1.alloc (.cells (q24 d x) 51)).drew x.ra d.rn d.r/\rOk I {S with lf:=S.lf-1} (w1.alloc (.cells (q24 d x) 51)).drew x.ka d.kn d.c:=⟨((H2.out.1.row HL.out.2.1).call (q01 _ _)).call (q22 (q20 _)),((H2.out.1.row HL.out.2.2).call (q01 _ _)).call (q22 (q20 _))⟩
 obtain ⟨na,nc,rfl,hpush⟩:=HD.out.push d x hrk.1 hrk.2 hc hown hgrow hat
 have HN:Hid (Lx I S u ({S with lf:=S.lf-1}.add (d,x) na nc) (w7.setCell ⟨I.F,I.fo+6,none⟩ (.slice na (S.l.length+1) nc))):=(H2.out.1.trans (Lx.below H2.out.1.s ((q01 _ _).drew))).trans hpush
 have f7:w7.cell? ⟨I.F,I.fo+6,none⟩=some (.slice S.na S.l.length S.nc):=by
  have hn:bkOf S.na≠some I.F:=fun e=>by have h1:=(q09 HD.out.r e).1;have h2:=HD.out.i.f;omega
  rw[q08] at hgrow
  exact (World.cell?_of_block (a:=⟨I.F,I.fo+6,none⟩) (hgrow.block I.F (by simp;omega) (fun e=>hn e.symm))).trans HD.out.f.cell.2.1
 have f7z:∀ o,w7.frozen? ⟨I.F,o,none⟩=false:=fun o=>by
  have hn:bkOf S.na≠some I.F:=fun e=>by have h1:=(q09 HD.out.r e).1;have h2:=HD.out.i.f;omega
  rw[q08] at hgrow
  exact (World.frozen?_of_block (a:=⟨I.F,o,none⟩) (hgrow.block I.F (by simp;omega) (fun e=>hn e.symm))).trans (HD.out.f.cell.2.2.1 o)
 have hF7:I.F<w7.heap.size:=by have h1:=hgrow.size;simp at h1;omega
 clear hown hgrow hat hpush hrk HD H2 hi0 hy0 hy1 hy2 HL hS1
 go_upto_region 3 with fail
 go_region_law (first
  |(refine q84 (by rfl) _ _ _ _ (by rfl) (.slice S.na S.l.length S.nc) (.slice (some ⟨w1.heap.size,0,none⟩) 1 1) _ _ (by rfl) (by rfl) happ ?_))
 all_goals
  have f8:(w7.setCell ⟨I.F,I.fo+6,none⟩ (.slice na (S.l.length+1) nc)).cell? ⟨I.F,I.fo+6,none⟩=some (.slice na (S.l.length+1) nc):=by
   have:=HN.out.s.f.cell.2.1
   simpa[LBS.add] using this
  generalize w7.setCell ⟨I.F,I.fo+6,none⟩ (.slice na (S.l.length+1) nc)=w8 at *
  clear happ f7 f7z hF7
  go_wp2_with fail
  go_ret
  refine ⟨?_,na,nc,HN.out⟩
  first
  |rfl
  |(congr 2;go_num)
  |(congr 2;omega)
theorem qb1 {z:Int} (h1:-1000000<=z) (h2:z<=1000000):IntKind.i64.wrap z=z:=by
 simp[IntKind.wrap,IntKind.bits,IntKind.signed];omega
theorem LB.pick {I:LBI} {S:LBS} {u u':World} (h:LB I S u) (hc:CU I.C none 0 0 (S.A+2) u') (hg:u.grownBy u' (some I.C)):Lx I S u {S with A:=S.A+2} u':=by
 have hi:=h.i
 have g:Gx (fun k=>k=I.C) u u':=(Gx.grown hg).mono (fun k e=>(Option.some.inj e).symm)
 have hb:∀ k,k<u.heap.size->k≠I.C->u'.heap[k]?=u.heap[k]?:=fun k hk e=>g.block k hk e
 have hq:∀ {a:Option Addr} {n:Nat} {q:Nat->Int},rOk I S u a n q->rOk I {S with A:=S.A+2} u' a n q:=fun r=>r.gx g (fun k e=>.inl (e ▸ hi.c)) (fun _ _=>⟨fun e=>e,fun e=>e⟩)
 have hn:=h.n
 have h1:=hi.b
 have h2:=hi.c
 have h3:=hi.f
 have h4:=hi.k
 exact ⟨⟨hi,h.b.block g.size (hb _ (by omega) hi.bc),hc,h.f.block g.size (hb _ (by omega) hi.cf.symm),h.k.block g.size (hb _ (by omega) hi.ck.symm),q14 h.r (fun k e=>by
  have:=q09 h.r ((q08 _ _ _).symm.trans e)
  exact hb k this.2 (by omega)),q14 h.v (fun k e=>by
  have:=q09 h.v ((q08 _ _ _).symm.trans e)
  exact hb k this.2 (by omega)),fun p hp=>⟨hq (h.x p hp).1,hq (h.x p hp).2.1,(h.x p hp).2.2⟩,Nat.le_trans hn g.size⟩,g.mono (fun k e=>.inl (by subst e;exact ⟨hi.c,.inr (.inl rfl)⟩)),fun _ _=>⟨fun e=>e,fun e=>e⟩⟩
theorem LB.lineS {I:LBI} {S:LBS} {u:World} (h:LB I S u) (z:Int):Lx I S u {S with ln:=z} (u.setCell ⟨I.K,I.ko+4,none⟩ (.int .i64 z)):=by
 have hi:=h.i
 have hB:∀ k,I.N<=k->k≠I.K:=fun k hk e=>by have:=hi.k;omega
 have g:Gx (fun k=>k=I.K) u (u.setCell ⟨I.K,I.ko+4,none⟩ (.int .i64 z)):=Gx.set u I.K (I.ko+4) _
 refine ⟨⟨hi,q30 h.b hi.bk,?_,h.f.other hi.fk,h.k.set,q16 h.r _ fun k e=>hB k (q09 h.r ((q08 _ _ _).symm.trans e)).1,q16 h.v _ fun k e=>hB k (q09 h.v ((q08 _ _ _).symm.trans e)).1,fun p hp=>?_,by simpa using h.n⟩,g.mono (fun k e=>.inl (by subst e;exact ⟨hi.k,.inr (.inr (.inr rfl))⟩)),fun _ _=>⟨fun e=>e,fun e=>e⟩⟩
 ·obtain ⟨t,s,h1,h2⟩:=h.c
  have hk:(u.setCell ⟨I.K,I.ko+4,none⟩ (.int .i64 z)).heap[I.C]?=u.heap[I.C]?:=Below.heap_setCell _ _ _ _ hi.ck
  exact ⟨t,s,h1,by simpa using h2.lt,⟨(World.cell?_of_block (a:=⟨I.C,0,none⟩) hk).trans h2.c.1,(World.cell?_of_block (a:=⟨I.C,1,none⟩) hk).trans h2.c.2.1,(World.cell?_of_block (a:=⟨I.C,2,none⟩) hk).trans h2.c.2.2⟩,fun o=>(World.frozen?_of_block (a:=⟨I.C,o,none⟩) hk).trans (h2.fr o),fun i hi=>absurd hi (Nat.not_lt_zero _)⟩
 ·obtain ⟨x1,x2,x3⟩:=h.x p hp
  have hq:∀ {a:Option Addr} {n:Nat} {q:Nat->Int},rOk I S u a n q->rOk I {S with ln:=z} (u.setCell ⟨I.K,I.ko+4,none⟩ (.int .i64 z)) a n q:=fun r=>r.gx g (fun k e=>.inl (by subst e;exact hi.k)) (fun _ _=>⟨fun e=>e,fun e=>e⟩)
  exact ⟨hq x1,hq x2,x3⟩
abbrev LBS.lined (S:LBS) (v:Int):LBS:={S with A:=S.A+2,ln:=S.ln+v}
theorem z90 (I:LBI) (S:LBS) (u:World) (h:LB I S u) (hA:S.A<1000) (h1:0<=S.ln) (h2:S.ln<=1000) :
  Calls Tryz.prog 33 #[ptr I.B] u fun e w'=>∃ v:Int,0<=v/\v<=2/\e=.returned (.int .i64 (1+(S.ln+v)))/\Lx I S u (S.lined v) w':=by
 have HL:Hid (LB I S u):=h
 clear h
 go_enter Tryz.func33,Tryz.ntmps33
 go_upto_region 1 with fail
 have hb0:=HL.out.b.1.cell 0 rfl
 have hk0:=HL.out.k.cell.2.1
 go_region_with
  (first
   |(go_at_call 29;refine (q82 I S _ ?_).mono ?_;(first|exact HL.out|exact HL.out.drew);rintro e w1 ⟨rfl,hb⟩;have HB1:Hid (Below u.heap.size u w1):=q02 (q22 (q20 u)) hb;have hk1:=(HL.out.call HB1.out).k.cell.2.1;have hb1:=(HL.out.call HB1.out).b.1.cell 0 rfl;clear hb)
   |(go_at_call 30;refine (qw1 I.C none 0 0 S.A 3 _ (by omega) (by omega) (by omega) ?_).mono ?_;exact (HL.out.call HB1.out).c;rintro e w2 ⟨⟨v,rfl,hv1,hv2⟩,hc,hg⟩;have H2:Hid (Lx I S u {S with A:=S.A+2} w2):=(Lx.below HL.out HB1.out).trans ((HL.out.call HB1.out).pick hc hg);have hwv:IntKind.i64.wrap (S.ln+v)=S.ln+v:=qb1 (by omega) (by omega);have hb2:=H2.out.s.b.1.cell 0 rfl;have kz:=H2.out.s.k.cell.2.2.1;have kc:=H2.out.s.k.cell.2.1;have kl:=H2.out.s.k.cell.2.2.2.1;clear hc hg))
 all_goals
  have H3:Hid (Lx I S u (S.lined v) (w2.setCell ⟨I.K,I.ko+4,none⟩ (.int .i64 (S.ln+v)))):=H2.out.trans (H2.out.s.lineS (S.ln+v))
  generalize w2.setCell ⟨I.K,I.ko+4,none⟩ (.int .i64 (S.ln+v))=w3 at *
  clear hk0 hb0 kz kc kl hb2 hwv
  go_wp2_with fail
  refine (q82 I _ _ H3.out.s).mono ?_
  rintro e w4 ⟨rfl,hb4⟩
  have H4:Hid (Lx I S u (S.lined v) w4):=H3.out.trans (Lx.below H3.out.s hb4)
  have k4:=H4.out.s.k.cell.2.1
  have hw4:IntKind.i64.wrap (1+(S.ln+v))=1+(S.ln+v):=qb1 (by omega) (by omega)
  clear hb4
  go_wp2_with fail
  go_ret
  exact ⟨v,hv1,by omega,rfl,H4.out⟩
structure IL where
 a:Option Addr
 n:Nat
 c:Nat
 q:Nat->Int
abbrev ilV (r:IL):Value:=.slice r.a r.n r.c
abbrev il0:IL:=⟨none,0,0,fun _=>0⟩
abbrev ndR (k l n:Int) (r c:IL):ND:=⟨k,l,0,n,0,⟨#[]⟩,r.n,r.q,c.n,c.q⟩
abbrev naR (r c:IL):NA:=⟨r.a,r.c,c.a,c.c⟩
theorem rOk0 (I:LBI) (S:LBS) (u:World):rOk I S u none 0 (fun _=>0):=⟨fun h=>absurd h (Nat.not_lt_zero _),fun _ e=>nomatch e⟩
structure Gd (S:LBS) (n:Nat):Prop where
 l:S.l.length<=n
 f1:2000<=S.lf+n
 f2:S.lf<=100000
 A:S.A<=2*n
 n1:0<=S.ln
 n2:S.ln<=2*n
structure Ad (I:LBI) (S:LBS) (u:World) (d:ND) (x:NA) (S':LBS) (w':World):Prop where
 lx:Lx I S u S' w'
 l:S'.l=S.l++[(d,x)]
 va:S'.va=S.va/\S'.vc=S.vc/\S'.vl=S.vl
 sc:S'.sc=S.sc
theorem Gd.lf {S:LBS} {n:Nat} (h:Gd S n) (hn:n<=150):1000<=S.lf:=by have:=h.f1;omega
theorem q57 (I:LBI) (S:LBS) (k:Int) (r c:IL) (n:Nat) (u:World) (h:LB I S u) (hg:Gd S n) (hn:n<=150) (hr:rOk I S u r.a r.n r.q) (hc:rOk I S u c.a c.n c.q) (hcc:c.n<=c.c) :
  Calls Tryz.prog 15 #[ptr I.B,.int .i64 k,ilV r,ilV c] u fun e w'=>e=.returned (.int .i64 (S.l.length:Int))/\∃ (l:Int) (S':LBS),1<=l/\l<=1000/\Ad I S u (ndR k l 0 r c) (naR r c) S' w'/\Gd S' (n+1):=by
 have HL:Hid (LB I S u/\Gd S n/\rOk I S u r.a r.n r.q/\rOk I S u c.a c.n c.q):=⟨h,hg,hr,hc⟩
 clear h hg hr hc
 go_enter Tryz.func15,Tryz.ntmps15
 go_wp2_with fail
 refine (z90 I S _ HL.out.1 (by have:=HL.out.2.1.A;omega) HL.out.2.1.n1 (by have:=HL.out.2.1.n2;omega)).mono ?_
 rintro e w1 ⟨v,hv1,hv2,rfl,hx⟩
 have HX:Hid (Lx I S u (S.lined v) w1):=hx
 clear hx
 go_wp2_with fail
 have hN:=ql6 I (S.lined v) (ndR k (1+(S.ln+v)) 0 r c) (naR r c) w1 HX.out.s (HX.out.row HL.out.2.2.1) (HX.out.row HL.out.2.2.2) hcc (by have:=HL.out.2.1.l;show S.l.length<=200;omega) (HL.out.2.1.lf hn) HL.out.2.1.f2
 refine hN.mono ?_
 clear hN
 rintro e w2 ⟨rfl,na,nc,hy⟩
 have HY:Hid _:=HX.out.trans hy
 clear hy
 go_wp2_with fail
 go_ret
 have g:=HL.out.2.1
 have g1:=g.l;have g2:=g.f1;have g3:=g.f2;have g4:=g.A;have g5:=g.n1;have g6:=g.n2
 refine ⟨rfl,1+(S.ln+v),_,by omega,by omega,⟨HY.out,rfl,⟨rfl,rfl,rfl⟩,rfl⟩,⟨?_,?_,?_,?_,?_,?_⟩⟩
 ·show (S.l++[_]).length<=n+1
  simp;omega
 ·show 2000<=S.lf-1+(n+1:Nat)
  omega
 ·show S.lf-1<=100000
  omega
 ·show S.A+2<=2*(n+1)
  omega
 ·show 0<=S.ln+v
  omega
 ·show S.ln+v<=2*(n+1:Nat)
  omega
theorem Gd.add {S:LBS} {n:Nat} (g:Gd S n) (p:ND×NA) (na:Option Addr) (nc:Nat):Gd ({S with lf:=S.lf-1}.add p na nc) (n+1):=by
 have g1:=g.l;have g2:=g.f1;have g3:=g.f2;have g4:=g.A;have g5:=g.n1;have g6:=g.n2
 refine ⟨?_,?_,?_,?_,?_,?_⟩
 ·show (S.l++[_]).length<=n+1
  simp;omega
 ·show 2000<=S.lf-1+(n+1:Nat)
  omega
 ·show S.lf-1<=100000
  omega
 ·show S.A<=2*(n+1)
  omega
 ·exact g5
 ·show S.ln<=2*(n+1:Nat)
  omega
def AdP (I:LBI) (S:LBS) (u:World) (d:ND) (x:NA) (n:Nat) (e:Ending) (w':World):Prop:=e=.returned (.int .i64 (S.l.length:Int))/\∃ S',Ad I S u d x S' w'/\Gd S' (n+1)
theorem qf2 (I:LBI) (S:LBS) (d:ND) (x:NA) (n:Nat) (u:World) (h:LB I S u) (hg:Gd S n) (hn:n<=150) (hr:rOk I S u x.ra d.rn d.r) (hk:rOk I S u x.ka d.kn d.c) (hc:d.kn<=x.kc):Calls Tryz.prog 17 #[ptr I.B,q40 d x] u fun e w'=>AdP I S u d x n e w':=
 (ql6 I S d x u h hr hk hc (by have:=hg.l;omega) (hg.lf hn) hg.f2).mono (by
  rintro e w' ⟨rfl,na,nc,hx⟩
  exact ⟨rfl,_,⟨hx,rfl,⟨rfl,rfl,rfl⟩,rfl⟩,hg.add _ na nc⟩)
theorem AdP.first {I:LBI} {S:LBS} {u u1:World} {d:ND} {x:NA} {n:Nat} {e:Ending} {w':World} (h:LB I S u) (hb:Below u.heap.size u u1) (k:AdP I S u1 d x n e w'):AdP I S u d x n e w':=by
 obtain ⟨rfl,S',ha,hg⟩:=k
 exact ⟨rfl,S',⟨(Lx.below h hb).trans ha.lx,ha.l,ha.va,ha.sc⟩,hg⟩
theorem qq3 (I:LBI) (S:LBS) (n:Nat) (u:World) (h:LB I S u) (hg:Gd S n) (hn:n<=150) :
  Calls Tryz.prog 36 #[ptr I.B,.int .i64 0] u fun e w'=>AdP I S u (ndR 28 0 0 il0 il0) (naR il0 il0) n e w':=by
 have HN:Hid _:=qf2 I S (ndR 28 0 0 il0 il0) (naR il0 il0) n u h hg hn (rOk0 _ _ _) (rOk0 _ _ _) (Nat.le_refl _)
 clear h hg
 go_enter Tryz.func36,Tryz.ntmps36
 go_wp2_with fail
 refine Calls.mono HN.out ?_
 rintro e w1 ⟨rfl,hx⟩
 have HX:Hid _:=hx
 clear hx HN
 go_wp2_with fail
 go_ret
 exact ⟨rfl,HX.out⟩
theorem zh1 (I:LBI) (S:LBS) (z:Int) (n:Nat) (u:World) (h:LB I S u) (hg:Gd S n) (hn:n<=150) :
  Calls Tryz.prog 13 #[ptr I.B,.int .i64 z] u fun e w'=>AdP I S u (ndR 23 0 z il0 il0) (naR il0 il0) n e w':=by
 have HN:Hid _:=qf2 I S (ndR 23 0 z il0 il0) (naR il0 il0) n u h hg hn (rOk0 _ _ _) (rOk0 _ _ _) (Nat.le_refl _)
 clear h hg
 go_enter Tryz.func13,Tryz.ntmps13
 go_wp2_with fail
 refine Calls.mono HN.out ?_
 rintro e w1 ⟨rfl,hx⟩
 have HX:Hid _:=hx
 clear hx HN
 go_wp2_with fail
 go_ret
 exact ⟨rfl,HX.out⟩
theorem z13 (I:LBI) (S:LBS) (k:Int) (n:Nat) (u:World) (h:LB I S u) (hg:Gd S n) (hn:n<=150) :
  Calls Tryz.prog 14 #[ptr I.B,.int .i64 k] u fun e w'=>AdP I S u (ndR k 0 0 il0 il0) (naR il0 il0) n e w':=by
 have HN:Hid _:=qf2 I S (ndR k 0 0 il0 il0) (naR il0 il0) n u h hg hn (rOk0 _ _ _) (rOk0 _ _ _) (Nat.le_refl _)
 clear h hg
 go_enter Tryz.func14,Tryz.ntmps14
 go_wp2_with fail
 refine Calls.mono HN.out ?_
 rintro e w1 ⟨rfl,hx⟩
 have HX:Hid _:=hx
 clear hx HN
 go_wp2_with fail
 go_ret
 exact ⟨rfl,HX.out⟩
theorem z91 (I:LBI) (S:LBS) (k:Int) (c:IL) (n:Nat) (u:World) (h:LB I S u) (hg:Gd S n) (hn:n<=150) (hc:rOk I S u c.a c.n c.q) (hcc:c.n<=c.c) :
  Calls Tryz.prog 35 #[ptr I.B,.int .i64 k,ilV c] u fun e w'=>AdP I S u (ndR k 0 0 il0 c) (naR il0 c) n e w':=by
 have HN:Hid _:=qf2 I S (ndR k 0 0 il0 c) (naR il0 c) n u h hg hn (rOk0 _ _ _) hc hcc
 clear h hg hc
 go_enter Tryz.func35,Tryz.ntmps35
 go_wp2_with fail
 refine Calls.mono HN.out ?_
 rintro e w1 ⟨rfl,hx⟩
 have HX:Hid _:=hx
 clear hx HN
 go_wp2_with fail
 go_ret
 exact ⟨rfl,HX.out⟩
theorem qd6 (I:LBI) (S:LBS) (c:IL) (n:Nat) (u:World) (h:LB I S u) (hg:Gd S n) (hn:n<=150) (hc:rOk I S u c.a c.n c.q) (hcc:c.n<=c.c) :
  Calls Tryz.prog 20 #[ptr I.B,ilV c] u fun e w'=>AdP I S u (ndR 34 0 0 il0 c) (naR il0 c) n e w':=by
 have HN:Hid _:=z91 I S 34 c n u h hg hn hc hcc
 clear h hg hc
 go_enter Tryz.func20,Tryz.ntmps20
 go_wp2_with fail
 refine Calls.mono HN.out ?_
 rintro e w1 ⟨rfl,hx⟩
 have HX:Hid _:=hx
 clear hx HN
 go_wp2_with fail
 go_ret
 exact ⟨rfl,HX.out⟩
theorem qa8 {I:LBI} {S:LBS} {u:World} (h:LB I S u) (z:Int) (t:TypeId):rOk I S (u.alloc (.cells #[.int .i64 z] t)) (some ⟨u.heap.size,0,none⟩) 1 (fun _=>z):=by
 refine ⟨fun _=>⟨u.heap.size,0,rfl,Nat.zero_le _,by simp,fun i hi j hj=>?_⟩,fun b e=>?_⟩
 ·obtain rfl:i=0:=by omega
  obtain rfl:j=0:=by omega
  exact (Has.new u #[.int .i64 z] t).2 0
 ·cases e
  exact ⟨h.n,by simp,fun e=>Nat.lt_irrefl _ (q09 h.r e).2,fun e=>Nat.lt_irrefl _ (q09 h.v e).2⟩
theorem q71 (I:LBI) (S:LBS) (z:Int) (n:Nat) (u:World) (h:LB I S u) (hg:Gd S n) (hn:n<=150) :
  Calls Tryz.prog 19 #[ptr I.B,.int .i64 z] u fun e w'=>AdP I S u (ndR 26 0 0 ⟨some ⟨u.heap.size,0,none⟩,1,1,fun _=>z⟩ il0) (naR ⟨some ⟨u.heap.size,0,none⟩,1,1,fun _=>z⟩ il0) n e w':=by
 have HL:Hid (LB I S u):=h
 have HN:Hid _:=qf2 I S (ndR 26 0 0 ⟨some ⟨u.heap.size,0,none⟩,1,1,fun _=>z⟩ il0) (naR ⟨some ⟨u.heap.size,0,none⟩,1,1,fun _=>z⟩ il0) n (u.alloc (.cells #[.int .i64 z] 3)) (h.alloc _) hg hn (qa8 h z _) (rOk0 _ _ _) (Nat.le_refl _)
 clear h hg
 go_enter Tryz.func19,Tryz.ntmps19
 go_wp2_with fail
 refine Calls.mono HN.out ?_
 intro e w1 hx
 have HX:=AdP.first HL.out (q01 _ _) hx
 obtain ⟨rfl,hy⟩:=HX
 have HY:Hid _:=hy
 clear hx HN hy
 go_wp2_with fail
 go_ret
 exact ⟨rfl,HY.out⟩
theorem zh0 (v:World) (o:Obj):(v.alloc o).heap[v.heap.size]?=some o:=by
 show (v.heap.push o)[v.heap.size]?=some o
 exact Array.getElem?_push_size
theorem zf7 {I:LBI} {S:LBS} {u:World} (h:LB I S u) (z:Int):(u.alloc (.cells #[.int .i64 z] 3)).ownsRow I.N 3 1 (.slice (some ⟨u.heap.size,0,none⟩) 1 1) 1 [.int .i64 z]:=
 ⟨rfl,.inr ⟨u.heap.size,1,#[.int .i64 z],rfl,h.n,zh0 u _,Nat.le_refl _,by unfold maxLen;omega,rfl,rfl⟩⟩
abbrev rvL (f:Int) (q:Nat->Int) (j:Nat):List Value:=.int .i64 f :: (List.range j).map fun t=>.int .i64 (q t)
abbrev rvQ (f:Int) (q:Nat->Int) (j:Nat):Int:=if j=0 then f else q (j-1)
theorem yd7 (f:Int) (q:Nat->Int) (m i:Nat) (h:i<m+1):(rvL f q m)[i]?=some (.int .i64 (rvQ f q i)):=by
 rcases i with _|i
 ·rfl
 ·show ((List.range m).map fun t=>Value.int .i64 (q t))[i]?=_
  rw[List.getElem?_map,List.getElem?_range (by omega)]
  simp[rvQ]
theorem y48 (f:Int) (q:Nat->Int) (j:Nat):rvL f q (j+1)=rvL f q j++[.int .i64 (q j)]:=by simp[rvL,List.range_succ]
theorem yl0 {I:LBI} {S:LBS} {u w7:World} (h:LB I S u) {g c m:Nat} {f:Int} {q:Nat->Int} (ho:w7.ownsRow I.N 3 1 (.slice (some ⟨g,0,none⟩) (m+1) c) (m+1) (rvL f q m)) (hg:u.heap.size<=g):rOk I S w7 (some ⟨g,0,none⟩) (m+1) (rvQ f q):=by
 refine ⟨fun _=>⟨g,0,rfl,Nat.zero_le _,(q09 ho rfl).2,fun i hi j hj=>?_⟩,fun b e=>?_⟩
 ·obtain rfl:j=0:=by omega
  have:=ho.cells (g:=g) rfl i _ (yd7 f q m i hi)
  rw[show 0+i*1+0=i by omega]
  cases i<;>simpa[Addr.add] using this
 ·cases e
  exact ⟨by have:=h.n;show I.N<=g;omega,(q09 ho rfl).2,fun e=>by have h1:=(q09 h.r e).2;replace h1:g<u.heap.size:=h1;omega,fun e=>by have h1:=(q09 h.v e).2;replace h1:g<u.heap.size:=h1;omega⟩
structure PrS (I:LBI) (S:LBS) (u:World) (m:Nat) (q:Nat->Int) (n:Nat) (l:Int) (r2 r3:IL) (S':LBS) (w':World):Prop where
 lx:Lx I S u S' w'
 ll:S'.l=S.l++[(ndR 28 0 0 il0 il0,naR il0 il0),(ndR 34 0 0 il0 r2,naR il0 r2),(ndR 4 l 0 il0 r3,naR il0 r3)]
 va:S'.vl=S.vl
 sc:S'.sc=S.sc
 g:Gd S' (n+3)
 l1:1<=l
 l2:l<=1000
 r2n:r2.n=m+1
 r2q:r2.q=rvQ (S.l.length:Int) q
 r2c:m+1<=r2.c
 r3n:r3.n=1
 r3q:r3.q=fun _=>(S.l.length:Int)+1
 r3c:1<=r3.c
def PrP (I:LBI) (S:LBS) (u:World) (m:Nat) (q:Nat->Int) (n:Nat) (e:Ending) (w':World):Prop:=e=.returned (.int .i64 ((S.l.length:Int)+2))/\∃ l r2 r3 S',PrS I S u m q n l r2 r3 S' w'
theorem qi1 (I:LBI) (S:LBS) (kb m kc:Nat) (q:Nat->Int) (n:Nat) (u:World) (h:LB I S u) (hg:Gd S n) (hn:n<=140) (hm1:1<=m) (hm:m<=5) (hc:rOk I S u (some ⟨kb,0,none⟩) m q) :
  Calls Tryz.prog 21 #[ptr I.B,.slice (some ⟨kb,0,none⟩) m kc] u fun e w'=>PrP I S u m q n e w':=by
 have HL:Hid (LB I S u/\Gd S n/\rOk I S u (some ⟨kb,0,none⟩) m q/\1<=m):=⟨h,hg,hc,hm1⟩
 clear h hg hc hm1
 go_enter Tryz.func21,Tryz.ntmps21
 go_wp2_with fail
 refine (qq3 I S n _ HL.out.1 HL.out.2.1 (by omega)).mono ?_
 rintro e w1 ⟨rfl,S1,ha,hg1⟩
 have H1:Hid (Ad I S u (ndR 28 0 0 il0 il0) (naR il0 il0) S1 w1/\Gd S1 (n+1)/\rOk I S1 w1 (some ⟨kb,0,none⟩) m q):=⟨ha,hg1,ha.lx.row HL.out.2.2.1⟩
 clear ha hg1
 obtain ⟨f,hf⟩:∃ f:Int,(S.l.length:Int)=f:=⟨_,rfl⟩
 rw[hf]
 have HF:Hid ((S.l.length:Int)=f):=hf
 clear hf
 go_wp2_with fail
 go_loopw [6,16] (fun v i wr=>∃ j g c:Nat,j<=m/\v=.slice (some ⟨g,0,none⟩) (j+1) c/\i=.int .i64 (j:Int)/\Hid (Below w1.heap.size w1 wr/\wr.ownsRow I.N 3 1 (.slice (some ⟨g,0,none⟩) (j+1) c) (j+1) (rvL f q j)/\w1.heap.size<=g/\j+1<=c)) (fun _ i _=>m-(intOf i).toNat)
 case atStart=>exact ⟨0,w1.heap.size,1,Nat.zero_le _,rfl,rfl,q01 _ _,zf7 H1.out.1.lx.s f,Nat.le_refl _,Nat.le_refl _⟩
 case round=>
  obtain ⟨j,g,c,hj,rfl,rfl,HR⟩:=hrel
  by_cases hjm:j<m
  ·obtain ⟨i0,hi0,hy0,hy1,hy2⟩:=info_parts zl7
   have hs:=H1.out.1.lx.s
   obtain ⟨kb',ko',e0,_,hkl,kc0⟩:=cells1 (RowN.below H1.out.2.2.1 HR.out.1) hjm
   cases e0
   obtain ⟨v',w7,happ,hown,hgrow,_,hat⟩:=run_append_own_at (P:=Tryz.prog) (wr.alloc (.cells #[.int .i64 (q j)] 3)) I.N 44 44 3 i0 _ 1 8 Tryz.underlying44 hi0 hy0 hy1 hy2 rfl (by decide) (.slice (some ⟨g,0,none⟩) (j+1) c) (j+1) (rvL f q j) (q18 HR.out.2.1 (q01 _ _)) ⟨wr.heap.size,0,none⟩ 1 1 [.int .i64 (q j)] rfl (cell_one_new _ _ _) (by simp[Value.oneCell']) (by unfold maxLen;omega) (by omega) (by have:=hs.n;have:=HR.out.1.size;simp;omega)
   obtain ⟨g',c',rfl⟩:∃ g c,v'=.slice (some ⟨g,0,none⟩) (j+1 + 1) c:=by
    rcases hown.2 with ⟨_,e⟩|⟨g,c,cur,e,_⟩
    ·omega
    ·exact ⟨g,c,e⟩
   have hgl:w1.heap.size<=g':=by
    have h9:=HR.out.1.size
    have h8:=HR.out.2.2.1
    rcases hat with e|e
    ·have:=Option.some.inj e
     replace this:g'=g:=this
     omega
    ·have:=Option.some.inj e
     simp at this
     omega
   have HN:Hid (Below w1.heap.size w1 w7/\w7.ownsRow I.N 3 1 (.slice (some ⟨g',0,none⟩) (j+1 + 1) c') (j+1 + 1) (rvL f q (j+1))/\w1.heap.size<=g'/\j+1 + 1<=c'):=⟨(HR.out.1.alloc HR.out.1.size _).grown hgrow (by have:=HR.out.1.size;simp;omega) (fun k e=>by have:=Option.some.inj e;replace this:g=k:=this;have:=HR.out.2.2.1;omega),by rw[y48];exact hown,hgl,by
    rcases hown.2 with ⟨_,e⟩|⟨g,c,cur,e,_,_,hc,_⟩
    ·omega
    ·cases e;exact hc⟩
   clear hown hgrow hat hgl hi0 hy0 hy1 hy2 hs HR
   simp only[Nat.zero_add] at kc0
   go_wp2_with (at_builtin;refine q25 (by rfl) _ _ _ _ (by rfl) (.slice (some ⟨g,0,none⟩) (j+1) c) (.slice (some ⟨wr.heap.size,0,none⟩) 1 1) _ _ (by rfl) (by rfl) happ ?_)
   go_roundw
   case rel=>exact ⟨j+1,g',c',by omega,rfl,by go_num,HN⟩
   case measure=>simp[intOf];omega
  ·obtain rfl:j=m:=by omega
   have H2:Hid (Lx I S1 w1 S1 wr):=Lx.below H1.out.1.lx.s HR.out.1
   go_wp2_with fail
   refine (qd6 I S1 ⟨some ⟨g,0,none⟩,j+1,c,rvQ f q⟩ (n+1) _ H2.out.s H1.out.2.1 (by omega) (yl0 H1.out.1.lx.s HR.out.2.1 HR.out.2.2.1) HR.out.2.2.2).mono ?_
   rintro e w3 ⟨rfl,S2,ha2,hg2⟩
   have H3:Hid (Ad I S1 wr (ndR 34 0 0 il0 ⟨some ⟨g,0,none⟩,j+1,c,rvQ f q⟩) (naR il0 ⟨some ⟨g,0,none⟩,j+1,c,rvQ f q⟩) S2 w3/\Gd S2 (n+1 + 1)):=⟨ha2,hg2⟩
   clear ha2 hg2
   go_wp2_with fail
   have hst:=q57 I S2 4 il0 ⟨some ⟨w3.heap.size,0,none⟩,1,1,fun _=>(S1.l.length:Int)⟩ (n+1 + 1) (w3.alloc (.cells #[.int .i64 (S1.l.length:Int)] 3)) (H3.out.1.lx.s.alloc _) H3.out.2 (by omega) (rOk0 _ _ _) (qa8 H3.out.1.lx.s _ _) (Nat.le_refl _)
   refine hst.mono ?_
   clear hst
   rintro e w4 ⟨rfl,l,S3,hl1,hl2,ha3,hg3⟩
   have H4:Hid (Ad I S2 (w3.alloc (.cells #[.int .i64 (S1.l.length:Int)] 3)) (ndR 4 l 0 il0 ⟨some ⟨w3.heap.size,0,none⟩,1,1,fun _=>(S1.l.length:Int)⟩) (naR il0 ⟨some ⟨w3.heap.size,0,none⟩,1,1,fun _=>(S1.l.length:Int)⟩) S3 w4/\Gd S3 (n+1 + 1+1)):=⟨ha3,hg3⟩
   clear ha3 hg3
   go_wp2_with fail
   go_ret
   have e1:=H1.out.1.l
   have e2:=H3.out.1.l
   have e3:=H4.out.1.l
   have n1:(S1.l.length:Int)=(S.l.length:Int)+1:=by rw[e1];simp
   have n2:(S2.l.length:Int)=(S.l.length:Int)+2:=by rw[e2,e1];simp
   refine ⟨by rw[<-n2];rfl,l,⟨some ⟨g,0,none⟩,j+1,c,rvQ f q⟩,⟨some ⟨w3.heap.size,0,none⟩,1,1,fun _=>(S1.l.length:Int)⟩,S3,⟨((H1.out.1.lx.trans H2.out).trans H3.out.1.lx).trans ((Lx.below H3.out.1.lx.s (q01 _ _)).trans H4.out.1.lx),?_,?_,?_,H4.out.2,hl1,hl2,rfl,?_,HR.out.2.2.2,rfl,by rw[n1],Nat.le_refl _⟩⟩
   ·rw[e3,e2,e1]
    simp
   ·rw[H4.out.1.va.2.2,H3.out.1.va.2.2,H1.out.1.va.2.2]
   ·rw[H4.out.1.sc,H3.out.1.sc,H1.out.1.sc]
   ·rw[HF.out]
abbrev fnZ:Array Value:=#[.string ⟨#[109,97,105,110]⟩,.int .i64 0,.int .i64 0,.bool true,.slice none 0 0,.slice none 0 0,.slice none 0 0]
abbrev ctZ:Array Value:=#[.int .i64 0,.slice none 0 0,.int .i64 0,.int .i64 0,.int .i64 0]
theorem zy7:(Tryz.prog.info? 91).map (fun i=>(i.zero,i.size,i.bytes))=some (some (.agg #[.string ⟨#[]⟩,.int .i64 0,.int .i64 0,.bool false,.slice none 0 0,.slice none 0 0,.slice none 0 0]),7,112):=by kernel_rfl
theorem zy8:(Tryz.prog.info? 93).map (fun i=>(i.zero,i.size,i.bytes))=some (some (.agg #[.int .i64 0,.slice none 0 0,.int .i64 0,.int .i64 0,.int .i64 0]),5,56):=by kernel_rfl
def lS0:LBS:=⟨100000,0,0,none,0,[],[],none,0,.slice none 0 0⟩
theorem append_nil {w0:World} (A:Array Value) {t e:TypeId} {z:Value} {K b:Nat} (ht:Tryz.prog.underlying t=some (.slice e)) (hi:(Tryz.prog.info? e).map (fun i=>(i.zero,i.size,i.bytes))=some (some z,K,b)) (hz:z.cells.size=K) (hK:0<K) (hb:b<=1000) (hA:A.size=K) (h1:∀ y∈A.toList,y.oneCell'=true) (hn:∀ (j:Nat) (v:Value),A.toList[j]?=some v->(w0.alloc (.cells A e)).cell? ((⟨w0.heap.size,0,none⟩:Addr).add j)=some v) :
  ∃ g cap cur w',(Builtin.append_ #[t,t] t #[.slice none 0 0,.slice (some ⟨w0.heap.size,0,none⟩) 1 1]).run Tryz.prog (w0.alloc (.cells A e))=.ok (.slice (some ⟨g,0,none⟩) 1 cap) w'/\OwnB w' g cur/\(∀ (j:Nat) (v:Value),A[j]?=some v->cur[j]?=some v)/\w0.heap.size<g/\Below w0.heap.size w0 w'/\1<=cap/\w'.ownsRow 0 e K (.slice (some ⟨g,0,none⟩) 1 cap) 1 A.toList:=by
 obtain ⟨i0,hi0,hy0,hy1,hy2⟩:=info_parts hi
 obtain ⟨v',w7,happ,hown,hgrow,_,hat⟩:=run_append_own_at (P:=Tryz.prog) (w0.alloc (.cells A e)) 0 t t e i0 z K b ht hi0 hy0 hy1 hy2 hz hK (.slice none 0 0) 0 [] (World.ownsRow_nil _ _ _ _) ⟨w0.heap.size,0,none⟩ 1 1 A.toList (by simp[hA]) hn h1 (by unfold maxLen;omega) (by omega) (Nat.zero_le _)
 rcases hown.2 with ⟨_,d⟩|⟨g,cap,cur,e1,hb,hg,h2,h3,h4,h5⟩
 ·omega
 ·subst e1
  refine ⟨g,cap,cur,w7,happ,⟨⟨(Array.getElem?_eq_some_iff.1 hg).1,fun o=>by simp[World.cell?,hg]⟩,fun o=>by simp[World.frozen?,hg]⟩,fun j v hj=>?_,?_,(q01 w0 _).grown hgrow (by simp) (fun k e=>by cases e),by omega,by simpa using hown⟩
  ·simp at h5
   have hjl:j<K:=by rw[<-hA];exact (Array.getElem?_eq_some_iff.1 hj).1
   rw[<-Array.getElem?_toList,<-List.getElem?_take_of_lt (j:=K) hjl,h5,Array.getElem?_toList]
   exact hj
  ·rcases hat with e|e
   ·cases e
   ·have:=Option.some.inj e;simp at this;omega
def L4P (w:World) (I:LBI) (w':World):Prop:=LB I lS0 w'/\Below w.heap.size w w'/\(∀ k,(k=I.B\/k=I.C\/k=I.F\/k=I.K)->w.heap.size<=k)/\I.N=w'.heap.size/\I.nf=1/\I.f=0/\I.nk=1/\(∀ (j:Nat) (v:Value),fnZ[j]?=some v->I.A0[j]?=some v)/\(∀ (j:Nat) (v:Value),ctZ[j]?=some v->I.K0[j]?=some v)/\1<=I.kc/\1<=I.fc/\w'.ownsRow 0 91 7 (.slice (some ⟨I.F,0,none⟩) 1 I.fc) 1 fnZ.toList/\w'.ownsRow 0 93 5 (.slice (some ⟨I.K,0,none⟩) 1 I.kc) 1 ctZ.toList
theorem z92 (w:World) :
  Calls Tryz.prog 11 #[] w fun e w'=>∃ I:LBI,e=.returned (ptr I.B)/\L4P w I w':=by
 go_enter Tryz.func11,Tryz.ntmps11
 go_upto_region 2 with fail
 obtain ⟨w1,hw1⟩:∃ w1,(w.alloc (.cells #[.slice none 0 0,.int .i64 0,.int .u64 0] 84)).alloc (.cells #[ptr w.heap.size,.slice none 0 0,.slice none 0 0,.int .i64 100000] 87)=w1:=⟨_,rfl⟩
 have H1:Hid (Below w.heap.size w w1/\OwnB w1 w.heap.size #[.slice none 0 0,.int .i64 0,.int .u64 0]/\OwnB w1 (w.heap.size+1) #[ptr w.heap.size,.slice none 0 0,.slice none 0 0,.int .i64 100000]):=by
  rw[<-hw1]
  exact ⟨q04 _ _ _,(OwnB.new _ _ _).alloc _,q41 _ _ _ _⟩
 rw[hw1]
 clear hw1
 obtain ⟨C,hC⟩:∃ C,w.heap.size=C:=⟨_,rfl⟩
 obtain ⟨B,hB⟩:∃ B,w.heap.size+1=B:=⟨_,rfl⟩
 have HC:Hid (w.heap.size=C/\w.heap.size+1=B):=⟨hC,hB⟩
 have HB1:Hid (Below w.heap.size w w1):=H1.out.1
 rw[hB,hC] at H1
 rw[hB]
 clear hB hC
 obtain ⟨ta,hta⟩:∃ ta:Option Addr,Hid (ta=none):=⟨_,rfl⟩
 obtain ⟨tn,htn⟩:∃ tn:Nat,Hid (tn=0):=⟨_,rfl⟩
 obtain ⟨tc,htc⟩:∃ tc:Nat,Hid (tc=0):=⟨_,rfl⟩
 have htv:Hid (Value.slice none 0 0=.slice ta tn tc):=by rw[hta.out,htn.out,htc.out];exact rfl
 obtain ⟨F,fc,curF,w2,happ,hF,hFc,hFg,hb2,hfc,hFo⟩:=append_nil (w0:=w1) fnZ Tryz.underlying29 zy7 rfl (by decide) (by decide) rfl (by simp[Value.oneCell']) (q85 w1 fnZ _)
 have b1:w1.cell? ⟨B,1,none⟩=some (.slice none 0 0):=H1.out.2.2.1.cell 1 rfl
 have b1':w2.cell? ⟨B,1,none⟩=some (.slice none 0 0):=(H1.out.2.2.call hb2).1.cell 1 rfl
 have bz':=(H1.out.2.2.call hb2).2
 have hBl:=H1.out.2.2.1.1
 have hBl2:=(H1.out.2.2.call hb2).1.1
 have H2:Hid (OwnB w2 F curF/\(∀ (j:Nat) (v:Value),fnZ[j]?=some v->curF[j]?=some v)/\w1.heap.size<F/\Below w1.heap.size w1 w2/\w2.ownsRow 0 91 7 (.slice (some ⟨F,0,none⟩) 1 fc) 1 fnZ.toList):=⟨hF,hFc,hFg,hb2,hFo⟩
 rw[htv.out] at happ b1 b1'
 clear hF hFc hFg hb2 hFo
 go_upto_region 3 with (at_builtin;refine q25 (by rfl) _ _ _ _ (by rfl) (.slice ta tn tc) (.slice (some ⟨w1.heap.size,0,none⟩) 1 1) _ _ (by rfl) (by rfl) happ ?_)
 obtain ⟨w3,hw3⟩:∃ w3,w2.setCell ⟨B,1,none⟩ (.slice (some ⟨F,0,none⟩) 1 fc)=w3:=⟨_,rfl⟩
 have H3:Hid (OwnB w3 F curF/\OwnB w3 B #[ptr C,.slice (some ⟨F,0,none⟩) 1 fc,.slice none 0 0,.int .i64 100000]/\OwnB w3 C #[.slice none 0 0,.int .i64 0,.int .u64 0]/\Below w.heap.size w w3/\B<F/\w3.ownsRow 0 91 7 (.slice (some ⟨F,0,none⟩) 1 fc) 1 fnZ.toList):=by
  have h1:=H1.out.2.2.1.1
  have h2:=H2.out.2.2.1
  have hc:=HC.out
  rw[<-hw3]
  exact ⟨q30 H2.out.1 (by omega),(H1.out.2.2.call H2.out.2.2.2.1).set (o:=1) (by show 1<4;omega) _,q30 (H1.out.2.1.call H2.out.2.2.2.1) (by omega),q29 (q02 HB1.out H2.out.2.2.2.1) _ (by omega),by omega,q16 H2.out.2.2.2.2 _ (fun k e=>by have:=Option.some.inj e;replace this:F=k:=this;show k≠B;omega)⟩
 rw[hw3]
 clear hw3 happ b1 b1' bz' hBl hBl2
 obtain ⟨K,kc,curK,w4,happ,hK,hKc,hKg,hb4,hkc,hKo⟩:=append_nil (w0:=w3) ctZ Tryz.underlying85 zy8 rfl (by decide) (by decide) rfl (by simp[Value.oneCell']) (q85 w3 ctZ _)
 have b2:w3.cell? ⟨B,2,none⟩=some (.slice none 0 0):=H3.out.2.1.1.cell 2 rfl
 have b2':w4.cell? ⟨B,2,none⟩=some (.slice none 0 0):=(H3.out.2.1.call hb4).1.cell 2 rfl
 have bz':=(H3.out.2.1.call hb4).2
 have hBl:=H3.out.2.1.1.1
 have hBl2:=(H3.out.2.1.call hb4).1.1
 have H4:Hid (OwnB w4 K curK/\(∀ (j:Nat) (v:Value),ctZ[j]?=some v->curK[j]?=some v)/\w3.heap.size<K/\Below w3.heap.size w3 w4/\w4.ownsRow 0 93 5 (.slice (some ⟨K,0,none⟩) 1 kc) 1 ctZ.toList):=⟨hK,hKc,hKg,hb4,hKo⟩
 rw[htv.out] at happ b2 b2'
 clear hK hKc hKg hb4 hKo
 go_wp2_with (at_builtin;refine q25 (by rfl) _ _ _ _ (by rfl) (.slice ta tn tc) (.slice (some ⟨w3.heap.size,0,none⟩) 1 1) _ _ (by rfl) (by rfl) happ ?_)
 go_ret
 obtain ⟨q1,q2,q3,q4,q5,q6⟩:=H3.out
 obtain ⟨p1,p2,p3,p4,p5⟩:=H4.out
 have hc:=HC.out
 have r1:=q1.1.1
 have r2:=q2.1.1
 have r3:=q3.1.1
 have r4:=p4.size
 have r5:=p1.1.1
 have r6:=q4.size
 refine ⟨⟨w4.heap.size,B,C,F,K,fc,kc,1,0,1,curF,curK⟩,rfl,⟨⟨by show B<w4.heap.size;omega,by show C<w4.heap.size;omega,by show F<w4.heap.size;omega,r5,by show B≠C;omega,by show B≠F;omega,by show B≠K;omega,by show C≠F;omega,by show C≠K;omega,by show F≠K;omega,by show 0<1;omega,by show 1<=1;omega,by show 1<=2/\1<=2;omega⟩,(q2.call p4).set (o:=2) (by show 2<4;omega) _,?_,?_,?_,World.ownsRow_nil _ _ _ _,World.ownsRow_nil _ _ _ _,fun p hp=>absurd hp (by simp[lS0]),by simp⟩,q29 (q02 q4 p4) _ (by omega),fun k e=>by
  rcases e with e|e|e|e
  ·replace e:k=B:=e;omega
  ·replace e:k=C:=e;omega
  ·replace e:k=F:=e;omega
  ·replace e:k=K:=e;omega,by simp,rfl,rfl,rfl,H2.out.2.1,p2,hkc,hfc,?_,?_⟩
 ·have hC:OwnB (w4.setCell ⟨B,2,none⟩ (.slice (some ⟨K,0,none⟩) 1 kc)) C #[.slice none 0 0,.int .i64 0,.int .u64 0]:=q30 (q3.call p4) (by omega)
  exact ⟨0,0,Nat.le_refl _,hC.1.1,⟨hC.1.cell 0 rfl,hC.1.cell 1 rfl,hC.1.cell 2 rfl⟩,hC.2,fun i hi=>absurd hi (Nat.not_lt_zero _)⟩
 ·have hF:=H2.out.2.1
  exact ⟨curF,q30 (q1.call p4) (by show F≠B;omega),hF 4 _ rfl,hF 6 _ rfl,fun _ _ _=>rfl⟩
 ·exact ⟨curK,q30 p1 (by show K≠B;omega),p2 0 _ rfl,p2 1 _ rfl,p2 4 _ rfl,fun o ho=>absurd ho (Nat.not_lt_zero _)⟩
 ·exact q16 (q18 q6 p4) _ (fun k e=>by have:=Option.some.inj e;replace this:F=k:=this;show k≠B;omega)
 ·exact q16 p5 _ (fun k e=>by have:=Option.some.inj e;replace this:K=k:=this;show k≠B;omega)
abbrev nd0:ND×NA:=(ndR 0 0 0 il0 il0,naR il0 il0)
theorem zx5:∀ (l:List (ND×NA)) (i j:Nat),i<l.length->j<8->(nLs l)[i*8+j]?=(q24 (l.getD i nd0).1 (l.getD i nd0).2)[j]?
 |[],i,j,h,_=>absurd h (by simp)
 |x :: l,0,j,_,hj=>by
  show (n8 x++nLs l)[0*8+j]?=_
  rw[List.getElem?_append_left (by simp[n8];omega)]
  rcases (show j=0\/j=1\/j=2\/j=3\/j=4\/j=5\/j=6\/j=7 by omega) with rfl|rfl|rfl|rfl|rfl|rfl|rfl|rfl<;>rfl
 |x :: l,i+1,j,h,hj=>by
  have ih:=zx5 l i j (by simpa using h) hj
  show (n8 x++nLs l)[(i+1)*8+j]?=_
  rw[List.getElem?_append_right (by simp[n8];omega),show (i+1)*8+j-(n8 x).length=i*8+j by simp[n8];omega,ih]
  rfl
structure LZ (I:LBI) (S:LBS) (g:Nat) (l:List (ND×NA)) (u:World):Prop where
 f:FnB I u (.slice S.va S.vl.length S.vc) (.slice (some ⟨g,0,none⟩) l.length S.nc)
 r:RowN 8 0 u (some ⟨g,0,none⟩) l.length (fun i=>q24 (l.getD i nd0).1 (l.getD i nd0).2)
 v:u.ownsRow I.N 9 1 (.slice S.va S.vl.length S.vc) S.vl.length S.vl
 x:∀ p,p∈l->q51 0 u p.2.ra p.1.rn p.1.r/\q51 0 u p.2.ka p.1.kn p.1.c/\p.1.kn<=p.2.kc
 cap:l.length<=S.nc
theorem LB.lz {I:LBI} {S:LBS} {u:World} (h:LB I S u) {l0:List (ND×NA)} {d:ND} {x:NA} (hl:S.l=l0++[(d,x)]):∃ g,S.na=some ⟨g,0,none⟩/\I.N<=g/\g<u.heap.size/\u.cell? ⟨g,l0.length*8+1,none⟩=some (.int .i64 d.l)/\(∀ o,u.frozen? ⟨g,o,none⟩=false)/\∀ (v:Value),LZ I S g (l0++[({d with l:=1},x)]) ((u.setCell ⟨g,l0.length*8+1,none⟩ (.int .i64 1)).setCell ⟨I.B,2,none⟩ v):=by
 have hn:0<S.l.length:=by rw[hl];simp
 rcases h.r.2 with ⟨_,e⟩|⟨g,c,cur,e,h1,h2,h3,h4,h5,h6⟩
 ·omega
 ·have e1:S.na=some ⟨g,0,none⟩:=by injection e
  have e2:S.nc=c:=by injection e
  have hgl:=(Array.getElem?_eq_some_iff.1 h2).1
  have hcell:∀ i j,i<S.l.length->j<8->u.cell? ⟨g,i*8+j,none⟩=(q24 (S.l.getD i nd0).1 (S.l.getD i nd0).2)[j]?:=fun i j hi hj=>by
   have hx:=zx5 S.l i j hi hj
   have hs:j<(q24 (S.l.getD i nd0).1 (S.l.getD i nd0).2).size:=hj
   rw[Array.getElem?_eq_getElem hs] at hx ⊢
   have:=h.r.cells (g:=g) (by rw[e1];rfl) (i*8+j) _ hx
   generalize i*8+j=k at *
   cases k<;>simpa[Addr.add] using this
  have hi:=h.i
  have hF:=hi.f
  have hB:=hi.b
  have hg0:Gx (fun k=>k=g\/k=I.B) u u:=Gx.refl _ _
  refine ⟨g,e1,h1,hgl,?_,fun o=>by simp[World.frozen?,h2],fun v=>?_⟩
  ·have:=hcell l0.length 1 (by rw[hl];simp) (by omega)
   rw[hl] at this
   simpa using this
  ·have g1:Gx (fun k=>k=g\/k=I.B) u ((u.setCell ⟨g,l0.length*8+1,none⟩ (.int .i64 1)).setCell ⟨I.B,2,none⟩ v):=((Gx.set u g (l0.length*8+1) (.int .i64 1)).mono (fun k e=>.inl e)).trans (Gx.set _ I.B 2 v) (fun _ _ e=>.inr e)
   have hll:(l0++[({d with l:=1},x)]).length=S.l.length:=by rw[hl];simp
   refine ⟨?_,fun h0=>⟨g,0,rfl,Nat.zero_le _,by simpa using hgl,fun i hi' j hj=>?_⟩,?_,fun p hp=>?_,by rw[hll,e2];exact h3⟩
   ·rw[hll]
    have hf:=h.f
    rw[e1] at hf
    exact (hf.other (by omega)).other hi.bf.symm
   ·rw[hll] at hi'
    have hne:I.B≠g:=by omega
    rw[show 0+i*8+j=i*8+j by omega]
    have e3:((u.setCell ⟨g,l0.length*8+1,none⟩ (.int .i64 1)).setCell ⟨I.B,2,none⟩ v).cell? ⟨g,i*8+j,none⟩=(u.setCell ⟨g,l0.length*8+1,none⟩ (.int .i64 1)).cell? ⟨g,i*8+j,none⟩:=World.cell?_setCell_far _ ⟨I.B,2,none⟩ ⟨g,i*8+j,none⟩ _ hne
    rw[e3]
    have hO:OwnB u g cur:=⟨⟨hgl,fun o=>by simp[World.cell?,h2]⟩,fun o=>by simp[World.frozen?,h2]⟩
    have hlt:l0.length*8+1<cur.size:=by
     rw[h5]
     have:l0.length+1<=c:=by rw[hl] at h3;simpa using h3
     omega
    have hS:=(hO.set (o:=l0.length*8+1) hlt (.int .i64 1)).1.2 (i*8+j)
    have hU:=hO.1.2 (i*8+j)
    rw[hS]
    by_cases c1:i=l0.length
    ·subst c1
     by_cases c2:j=1
     ·subst c2
      rw[Array.getElem?_setIfInBounds_self_of_lt hlt]
      simp
     ·rw[Array.getElem?_setIfInBounds_ne (by omega),<-hU,hcell _ _ hi' hj,hl]
      simp
      rcases (show j=0\/j=2\/j=3\/j=4\/j=5\/j=6\/j=7 by omega) with rfl|rfl|rfl|rfl|rfl|rfl|rfl<;>rfl
    ·have hi2:i<l0.length:=by rw[hl] at hi';simp at hi';omega
     rw[Array.getElem?_setIfInBounds_ne (by omega),<-hU,hcell _ _ hi' hj,hl]
     simp[List.getElem?_append_left hi2]
   ·refine q14 h.v fun k e=>g1.block k (q09 h.v ((q08 _ _ _).symm.trans e)).2 (fun c=>?_)
    have e':=(q08 _ _ _).symm.trans e
    rcases c with c|c
    ·exact q90 h.v h.r (by decide) e' (by rw[e1,c];rfl)
    ·have:=(q09 h.v e').1;omega
   ·have hq:∀ {a:Option Addr} {n:Nat} {q:Nat->Int},rOk I S u a n q->q51 0 ((u.setCell ⟨g,l0.length*8+1,none⟩ (.int .i64 1)).setCell ⟨I.B,2,none⟩ v) a n q:=fun r=>(r.gx (S':=S) g1 (fun k e=>by
     rcases e with e|e
     ·exact .inr (.inl (by rw[e1,e];rfl))
     ·exact .inl (e ▸ hi.b)) (fun _ _=>⟨fun e=>e,fun e=>e⟩)).1
    rcases List.mem_append.1 hp with hp|hp
    ·obtain ⟨x1,x2,x3⟩:=h.x p (by rw[hl];exact List.mem_append.2 (.inl hp))
     exact ⟨hq x1,hq x2,x3⟩
    ·obtain rfl:p=({d with l:=1},x):=by simpa using hp
     obtain ⟨x1,x2,x3⟩:=h.x (d,x) (by rw[hl];simp)
     exact ⟨hq x1,hq x2,x3⟩
theorem zb8 {u u':World} {T:Nat->Prop} {C A:Nat} (h:CU C none 0 0 A u) (g:Gx T u u') (hC:¬T C):CU C none 0 0 A u':=by
 obtain ⟨t,s,h1,h2⟩:=h
 have hk:u'.heap[C]?=u.heap[C]?:=g.block C h2.lt hC
 exact ⟨t,s,h1,Nat.lt_of_lt_of_le h2.lt g.size,⟨(World.cell?_of_block (a:=⟨C,0,none⟩) hk).trans h2.c.1,(World.cell?_of_block (a:=⟨C,1,none⟩) hk).trans h2.c.2.1,(World.cell?_of_block (a:=⟨C,2,none⟩) hk).trans h2.c.2.2⟩,fun o=>(World.frozen?_of_block (a:=⟨C,o,none⟩) hk).trans (h2.fr o),fun i hi=>absurd hi (Nat.not_lt_zero _)⟩
structure ShS (I:LBI) (S:LBS) (u:World) (c:IL) (S':LBS) (g:Nat) (w':World):Prop where
 z:LZ I S' g (S.l++[(ndR 1 1 0 il0 c,naR il0 c)]) w'
 b:OwnB w' I.B #[ptr I.C,.slice (some ⟨I.F,0,none⟩) I.nf I.fc,.slice (some ⟨I.K,0,none⟩) (I.nk-1) I.kc,.int .i64 S'.lf]
 cu:CU I.C none 0 0 S'.A w'
 kx:KxB I w' S'.ln S'.sc
 gd:S'.A<=400/\1500<=S'.lf/\S'.lf<=100000
 vl:S'.vl=S.vl
 m:∀ k,k<u.heap.size->(g=k->bkOf S.na=some k)/\(bkOf S'.va=some k->bkOf S.va=some k)
 gg:I.N<=g
 g:Gx (fun k=>(k=I.B\/k=I.C\/k=I.F\/k=I.K)\/bkOf S.na=some k\/bkOf S.va=some k) u w'
theorem LZ.call {I:LBI} {S:LBS} {g:Nat} {l:List (ND×NA)} {u u':World} (h:LZ I S g l u) (hb:Below u.heap.size u u'):LZ I S g l u':=⟨by
 obtain ⟨A,h1,h2⟩:=h.f
 exact ⟨A,h1.call hb,h2⟩,h.r.below hb,q18 h.v hb,fun p hp=>⟨RowN.below (h.x p hp).1 hb,RowN.below (h.x p hp).2.1 hb,(h.x p hp).2.2⟩,h.cap⟩
theorem zl5 {u:World} {a:Option Addr} {n:Nat} {q:Nat->Int} {B:Nat} {v:Value} (h:q51 0 u a n q) (hB:OwnB u B #[.slice none 0 0]):q51 0 (u.setCell ⟨B,0,none⟩ v) a n q:=fun h0=>by
 obtain ⟨b,off,e,h1,h2,h3⟩:=h h0
 have hne:B≠b:=fun c=>by
  subst c
  have h4:=h3 0 h0 0 (by omega)
  rw[hB.1.2 (off+0*1+0)] at h4
  rcases (show off=0\/0<off by omega) with rfl|ho
  ·simp at h4
  ·rw[Array.getElem?_eq_none (by show 1<=off+0*1+0;omega)] at h4
   simp at h4
 exact ⟨b,off,e,h1,by simpa using h2,fun i hi j hj=>(World.cell?_setCell_far u ⟨B,0,none⟩ ⟨b,off+i*1+j,none⟩ v hne).trans (h3 i hi j hj)⟩
theorem LZ.set {I:LBI} {S:LBS} {g B:Nat} {l:List (ND×NA)} {u:World} {v:Value} (h:LZ I S g l u) (hB:OwnB u B #[.slice none 0 0]) (h1:I.F≠B) (h2:g≠B) (h3:bkOf S.va≠some B):LZ I S g l (u.setCell ⟨B,0,none⟩ v):=⟨h.f.other h1,fun h0=>by
 obtain ⟨b,off,e,q1,q2,q3⟩:=h.r h0
 cases e
 exact ⟨g,0,rfl,q1,by simpa using q2,fun i hi j hj=>(World.cell?_setCell_far u ⟨B,0,none⟩ ⟨g,0+i*8+j,none⟩ v (fun c=>h2 c.symm)).trans (q3 i hi j hj)⟩,q16 h.v _ fun k e c=>h3 (by rw[<-c];exact (q08 _ _ _).symm.trans e),fun p hp=>⟨zl5 (h.x p hp).1 hB,zl5 (h.x p hp).2.1 hB,(h.x p hp).2.2⟩,h.cap⟩
theorem ShS.call {I:LBI} {S:LBS} {u:World} {c:IL} {S':LBS} {g:Nat} {w' w'':World} (h:ShS I S u c S' g w') (hb:Below w'.heap.size w' w''):ShS I S u c S' g w'':=⟨h.z.call hb,h.b.call hb,h.cu.call hb,(by obtain ⟨A,h1,h2⟩:=h.kx;exact ⟨A,h1.call hb,h2⟩),h.gd,h.vl,h.m,h.gg,h.g.trans (Gx.below (fun _=>False) hb) (fun _ _ e=>e.elim)⟩
theorem ql5 (I:LBI) (S:LBS) (c:IL) (n:Nat) (u:World) (h:LB I S u) (hg:Gd S n) (hn:n<=140) (hc:rOk I S u c.a c.n c.q) (hcc:c.n<=c.c) (hkc:I.nk<=I.kc) :
  Calls Tryz.prog 16 #[ptr I.B,ilV c] u fun e w'=>e=.returned (.tuple #[])/\∃ S' g,ShS I S u c S' g w'/\Gd S' (n+1):=by
 have HL:Hid (LB I S u/\Gd S n/\rOk I S u c.a c.n c.q):=⟨h,hg,hc⟩
 clear h hg hc
 go_enter Tryz.func16,Tryz.ntmps16
 go_wp2_with fail
 have hst:=q57 I S 1 il0 c n u HL.out.1 HL.out.2.1 (by omega) (rOk0 _ _ _) HL.out.2.2 hcc
 refine hst.mono ?_
 clear hst
 rintro e w1 ⟨rfl,l,S1,hl1,hl2,ha,hg1⟩
 have H1:Hid (Ad I S u (ndR 1 l 0 il0 c) (naR il0 c) S1 w1):=ha
 have HG:Hid (Gd S1 (n+1)):=hg1
 clear ha hg1
 go_wp2_with fail
 refine (qb7 I S1 _ H1.out.lx.s).mono ?_
 rintro e w2 ⟨rfl,hb2⟩
 have H2:Hid (Lx I S u S1 w2):=H1.out.lx.trans (Lx.below H1.out.lx.s hb2)
 obtain ⟨g,e1,hgN,hgl,hgc,hgz,hz⟩:=H2.out.s.lz H1.out.l
 have HZ:Hid (∀ v,LZ I S1 g (S.l++[({ndR 1 l 0 il0 c with l:=1},naR il0 c)]) ((w2.setCell ⟨g,S.l.length*8+1,none⟩ (.int .i64 1)).setCell ⟨I.B,2,none⟩ v)):=hz
 have hlen:S1.l.length=S.l.length+1:=by rw[H1.out.l];simp
 have f6:=H2.out.s.f.cell.2.1
 rw[e1,hlen] at f6
 have hI1:(0:Int)<=(S.l.length:Int):=by omega
 have hI2:(S.l.length:Int)<((S.l.length+1:Nat):Int):=by omega
 have b2:=H2.out.s.b.1.cell 2 rfl
 have bz:=H2.out.s.b.2
 have hbl:=H2.out.s.b.1.1
 have hne:I.B≠g:=by have:=H2.out.s.i.b;omega
 have HE:Hid (S1.na=some ⟨g,0,none⟩):=e1
 clear hz hb2 e1 hlen
 go_upto_region 2 with fail
 obtain ⟨w3,hw3⟩:∃ w3,w2.setCell ⟨g,S.l.length*8+1,none⟩ (.int .i64 1)=w3:=⟨_,rfl⟩
 have H3:Hid (OwnB w3 I.B #[ptr I.C,.slice (some ⟨I.F,0,none⟩) I.nf I.fc,.slice (some ⟨I.K,0,none⟩) I.nk I.kc,.int .i64 S1.lf]/\Gx (fun k=>k=g) w2 w3/\KxB I w3 S1.ln S1.sc):=by
  rw[<-hw3]
  exact ⟨q30 H2.out.s.b hne,Gx.set _ _ _ _,H2.out.s.k.other (by have:=H2.out.s.i.k;omega)⟩
 rw[hw3] at HZ
 rw[hw3]
 clear hw3 f6 b2 bz hbl hgc hgz
 have b2:w3.cell? ⟨I.B,2,none⟩=some (.slice (some ⟨I.K,0,none⟩) I.nk I.kc):=H3.out.1.1.cell 2 rfl
 have bz:=H3.out.1.2
 have hbl:=H3.out.1.1.1
 have hkk:=H2.out.s.i.hk
 have hkm:=H2.out.s.i.m.2
 have hk0:I.kc≠0:=by omega
 have hk1:(0:Int)<=(I.kc:Int):=by omega
 have hk2:IntKind.i64.wrap ((1:Int)-1)=0:=by decide
 have hk3:IntKind.i64.wrap 0=0:=by decide
 have HF:Hid (ShS I S u c S1 g (w3.setCell ⟨I.B,2,none⟩ (.slice (some ⟨I.K,0,none⟩) (I.nk-1) I.kc))):=by
  have hE:=HE.out
  have hx:=H2.out
  refine ⟨HZ.out _,H3.out.1.set (o:=2) (by show 2<4;omega) _,zb8 (zb8 H2.out.s.c H3.out.2.1 (fun e=>by have h1:=H2.out.s.i.c;omega)) (Gx.set w3 I.B 2 _) (fun e=>H2.out.s.i.bc e.symm),H3.out.2.2.other H2.out.s.i.bk.symm,by have g1:=HG.out.A;have g2:=HG.out.f1;have g3:=HG.out.f2;omega,H1.out.va.2.2,fun k hk=>⟨fun e=>(hx.m k hk).1 (by rw[hE,e];rfl),(hx.m k hk).2⟩,hgN,?_⟩
  refine ((hx.g.mono (S':=fun k=>(k=I.B\/k=I.C\/k=I.F\/k=I.K)\/bkOf S.na=some k\/bkOf S.va=some k) (fun k e=>?_)).trans H3.out.2.1 (fun k hk e=>?_)).trans (Gx.set w3 I.B 2 _) (fun k _ e=>.inl (.inl e))
  ·rcases e with e|e
   ·exact .inl e.2
   ·exact .inr e
  ·exact .inr (.inl ((hx.m k hk).1 (by rw[hE,e];rfl)))
 obtain ⟨m,hm⟩:∃ m,I.nk=m:=⟨_,rfl⟩
 rw[hm] at b2 HF hkk hkm hkc
 have hmk:(m:Int)<=(I.kc:Int):=by omega
 have hk4:(1:Int)<=(I.kc:Int):=by omega
 clear hm hkc
 rcases (show m=1\/m=2 by omega) with rfl|rfl
 all_goals
  clear hkk hkm
  have hk5:IntKind.i64.wrap ((2:Int)-1)=1:=by decide
  have hk6:IntKind.i64.wrap 1=1:=by decide
  go_region_with fail
  all_goals go_end0
  all_goals first
   |exact ⟨rfl,S1,g,HF.out,HG.out⟩
   |exact ⟨rfl,S1,g,HF.out.call (q22 (q20 _)),HG.out⟩
abbrev LBI.back (I:LBI) (N:Nat) (A K:Array Value):LBI:={I with N:=N,f:=0,nk:=1,A0:=A,K0:=K}
theorem ShS.back {I:LBI} {S:LBS} {u:World} {c:IL} {S':LBS} {g:Nat} {w':World} (h:ShS I S u c S' g w') (hi:I.ok) (hI:I.nf=2/\I.f=1/\I.nk=2) (ln:Int) (hk0:I.K0[0]?=some (.int .i64 0)/\I.K0[1]?=some (.slice none 0 0)/\I.K0[4]?=some (.int .i64 ln)) (ha:I.A0[4]?=some (.slice none 0 0)/\I.A0[6]?=some (.slice none 0 0)) (hN:I.N<=w'.heap.size) :
  ∃ A K,LB (I.back w'.heap.size A K) ⟨S'.lf,ln,S'.A,none,0,[],[],none,0,.slice none 0 0⟩ w'/\OwnB w' I.F A/\A[11]?=some (.slice S'.va S'.vl.length S'.vc)/\A[13]?=some (.slice (some ⟨g,0,none⟩) (S.l.length+1) S'.nc)/\∀ o,o≠11->o≠13->A[o]?=I.A0[o]?:=by
 obtain ⟨A,a1,a2,a3,a4⟩:=h.z.f
 obtain ⟨K,k1,k2,k3,k4,k5⟩:=h.kx
 obtain ⟨i1,i2,i3⟩:=hI
 have e1:I.fo=7:=by show I.f*7=7;rw[i2]
 have e2:I.ko=5:=by show (I.nk-1)*5=5;rw[i3]
 rw[e1] at a2 a3 a4
 rw[e2] at k5
 have hlen:(S.l++[(ndR 1 1 0 il0 c,naR il0 c)]).length=S.l.length+1:=by simp
 rw[hlen] at a3
 have hb:=h.b
 rw[i3] at hb
 refine ⟨A,K,⟨⟨by have:=hi.b;show I.B<w'.heap.size;omega,by have:=hi.c;show I.C<w'.heap.size;omega,by have:=hi.f;show I.F<w'.heap.size;omega,by have:=hi.k;show I.K<w'.heap.size;omega,hi.bc,hi.bf,hi.bk,hi.cf,hi.ck,hi.fk,by show 0<I.nf;omega,by show 1<=1;omega,by show I.nf<=2/\1<=2;omega⟩,hb,h.cu,⟨A,a1,?_,?_,fun _ _ _=>rfl⟩,⟨K,k1,?_,?_,?_,fun o ho=>absurd ho (by show ¬o<(1-1)*5;omega)⟩,World.ownsRow_nil _ _ _ _,World.ownsRow_nil _ _ _ _,fun p hp=>absurd hp (by simp),Nat.le_refl _⟩,a1,a2,a3,a4⟩
 ·show A[0*7+4]?=_
  rw[a4 (0*7+4) (by omega) (by omega)]
  exact ha.1
 ·show A[0*7+6]?=_
  rw[a4 (0*7+6) (by omega) (by omega)]
  exact ha.2
 ·show K[(1-1)*5]?=_
  rw[k5 ((1-1)*5) (by omega)]
  exact hk0.1
 ·show K[(1-1)*5+1]?=_
  rw[k5 ((1-1)*5+1) (by omega)]
  exact hk0.2.1
 ·show K[(1-1)*5+4]?=_
  rw[k5 ((1-1)*5+4) (by omega)]
  exact hk0.2.2
end Go.Proofs.YtaimofjekgnieaaGreatDoor
namespace Go.Proofs.YtaimofjekgnieaaGreatDoor
open Go.RowKit
abbrev fnO (nm:ByteArray) (ln:Int):Array Value:=#[.string nm,.int .i64 ln,.int .i64 0,.bool true,.slice none 0 0,.slice none 0 0,.slice none 0 0]
abbrev ctO (ln ne:Int):Array Value:=#[.int .i64 1,.slice none 0 0,.int .i64 0,.int .i64 ne,.int .i64 ln]
abbrev fnE:Array Value:=#[.string ⟨#[]⟩,.int .i64 0,.int .i64 0,.bool false,.slice none 0 0,.slice none 0 0,.slice none 0 0]
structure Op8 (I:LBI) (S:LBS) (u:World) (nm:ByteArray) (I1:LBI) (w:World):Prop where
 s:LB I1 ⟨S.lf,S.ln,S.A+2,none,0,[],[],none,0,.slice none 0 0⟩ w
 eB:I1.B=I.B
 eC:I1.C=I.C
 eK:I1.K=I.K
 ek:I1.kc=I.kc
 nf:I1.nf=2
 f:I1.f=0
 nk:I1.nk=1
 N:I1.N=w.heap.size
 r:w.ownsRow 0 93 5 (.slice (some ⟨I.K,0,none⟩) 1 I.kc) 1 ctZ.toList
 A:∀ (j:Nat) (z:Value),(fnZ.toList++(fnO nm S.ln).toList)[j]?=some z->I1.A0[j]?=some z
 o:OwnB w I1.F I1.A0
 F:I1.F=I.F\/u.heap.size<=I1.F
 nm:nm.size<=40
 g:Gx (fun k=>k=I.B\/k=I.C\/k=I.F\/k=I.K) u w
structure OpP (I:LBI) (S:LBS) (u:World) (nm:ByteArray) (I':LBI) (w:World):Prop where
 s:LB I' ⟨S.lf,0,S.A+2,none,0,[],[],none,0,.slice none 0 0⟩ w
 eB:I'.B=I.B
 eC:I'.C=I.C
 nf:I'.nf=2
 f:I'.f=1
 nk:I'.nk=2
 kc:2<=I'.kc
 N:I'.N=w.heap.size
 A:∀ (j:Nat) (z:Value),(fnZ.toList++(fnO nm S.ln).toList)[j]?=some z->I'.A0[j]?=some z
 K:∀ (j:Nat) (z:Value),ctZ.toList[j]?=some z->I'.K0[j]?=some z
 F:I'.F=I.F\/u.heap.size<=I'.F
 Kn:I'.K=I.K\/u.heap.size<=I'.K
 nm:nm.size<=40
 g:Gx (fun k=>k=I.B\/k=I.C\/k=I.F\/k=I.K) u w
theorem yl5 {I I1:LBI} {S:LBS} {u w8 w10 w11:World} {nm:ByteArray} {ka:Option Addr} {kc:Nat} (h:Op8 I S u nm I1 w8) (hb:Below w8.heap.size w8 w10) (ho:w11.ownsRow 0 93 5 (.slice ka 2 kc) 2 (ctZ.toList++(ctO 0 1).toList)) (hg:(w10.alloc (.cells (ctO 0 1) 93)).grownBy w11 (Value.slice (some ⟨I.K,0,none⟩) 1 I.kc).ownBlock) (hat:(Value.slice ka 2 kc).ownBlock=(Value.slice (some ⟨I.K,0,none⟩) 1 I.kc).ownBlock\/(Value.slice ka 2 kc).ownBlock=some (w10.alloc (.cells (ctO 0 1) 93)).heap.size):∃ I',OpP I S u nm I' (w11.setCell ⟨I.B,2,none⟩ (.slice ka 2 kc)):=by
 have hi:=h.s.i
 have i1:=hi.b;have i2:=hi.c;have i3:=hi.f;have i4:=hi.k
 rw[h.N] at i1 i2 i3 i4
 have s10:=hb.size
 have g11:Gx (fun k=>k=I.K) w8 w11:=(Gx.below (fun k=>k=I.K) (q02 hb (q01 w10 _))).trans (Gx.grown hg) (fun k _ e=>(Option.some.inj e).symm)
 have s11:=g11.size
 have eB:=h.eB;have eC:=h.eC;have eK:=h.eK
 rcases ho.2 with ⟨_,d⟩|⟨K,cap,cur,e1,_,hK,h2,h3,h4,h5⟩
 ·omega
 ·cases e1
  have hKl:=(Array.getElem?_eq_some_iff.1 hK).1
  have hKo:OwnB w11 K cur:=⟨⟨hKl,fun o=>by simp[World.cell?,hK]⟩,fun o=>by simp[World.frozen?,hK]⟩
  have hKn:K=I.K\/w8.heap.size<K:=by
   rcases hat with e|e
   ·exact .inl (Option.some.inj e)
   ·refine .inr ?_
    have:=Option.some.inj e
    simp at this
    omega
  have hcur:∀ (j:Nat) (z:Value),(ctZ.toList++(ctO 0 1).toList)[j]?=some z->cur[j]?=some z:=fun j z hj=>by
   have hjl:=(List.getElem?_eq_some_iff.1 hj).1
   have hjl':j<2*5:=hjl
   rw[<-Array.getElem?_toList,<-List.getElem?_take_of_lt (j:=2*5) hjl',h5]
   exact hj
  have nB:K≠I.B:=by rcases hKn with e|e;rw[e,<-eK,<-eB];exact hi.bk.symm;omega
  have nC:K≠I.C:=by rcases hKn with e|e;rw[e,<-eK,<-eC];exact hi.ck.symm;omega
  have nF:I1.F≠K:=by rcases hKn with e|e;rw[e,<-eK];exact hi.fk;omega
  have bF:I.B≠I1.F:=by rw[<-eB];exact hi.bf
  have nBK:I.B≠I.K:=by rw[<-eB,<-eK];exact hi.bk
  have nCK:I.C≠I.K:=by rw[<-eC,<-eK];exact hi.ck
  have nFK:I1.F≠I.K:=by rw[<-eK];exact hi.fk
  have hBo:=h.s.b
  rw[eB,eC,h.nf,h.nk,eK,h.ek] at hBo
  have hC:=h.s.c
  rw[eC] at hC
  have hF:OwnB (w11.setCell ⟨I.B,2,none⟩ (.slice (some ⟨K,0,none⟩) 2 kc)) I1.F I1.A0:=q30 (g11.ownB h.o nFK) bF.symm
  refine ⟨⟨w11.heap.size,I.B,I.C,I1.F,K,I1.fc,kc,2,1,2,I1.A0,cur⟩,⟨⟨⟨?_,?_,?_,hKl,?_,bF,nB.symm,?_,nC.symm,nF,?_,?_,?_⟩,?_,?_,⟨I1.A0,hF,?_,?_,fun _ _ _=>rfl⟩,⟨cur,q30 hKo nB,?_,?_,?_,fun _ _=>rfl⟩,World.ownsRow_nil _ _ _ _,World.ownsRow_nil _ _ _ _,fun p hp=>absurd hp (by simp),?_⟩,rfl,rfl,rfl,rfl,rfl,h2,?_,h.A,fun j z e=>hcur j z ?_,h.F,?_,h.nm,?_⟩⟩
  ·show I.B<w11.heap.size;omega
  ·show I.C<w11.heap.size;omega
  ·show I1.F<w11.heap.size;omega
  ·show I.B≠I.C;rw[<-eB,<-eC];exact hi.bc
  ·show I.C≠I1.F;rw[<-eC];exact hi.cf
  ·show 1<2;omega
  ·show 1<=2;omega
  ·show 2<=2/\2<=2;omega
  ·exact (g11.ownB hBo nBK).set (o:=2) (by show 2<4;omega) _
  ·exact zb8 (zb8 hC g11 nCK) (Gx.set w11 I.B 2 _) (fun e=>hi.bc (by rw[eB,eC];exact e.symm))
  ·exact h.A 11 _ rfl
  ·exact h.A 13 _ rfl
  ·exact hcur 5 _ rfl
  ·exact hcur 6 _ rfl
  ·exact hcur 9 _ rfl
  ·show w11.heap.size<=_;simp
  ·show w11.heap.size=_;simp
  ·have hjl:=(List.getElem?_eq_some_iff.1 e).1
   rw[List.getElem?_append_left hjl]
   exact e
  ·have s8:=h.g.size
   rcases hKn with e|e
   ·exact .inl e
   ·exact .inr (by show u.heap.size<=K;omega)
  ·exact (h.g.trans g11 (fun k _ e=>.inr (.inr (.inr e)))).trans (Gx.set w11 I.B 2 _) (fun k _ e=>.inl e)
end Go.Proofs.YtaimofjekgnieaaGreatDoor
