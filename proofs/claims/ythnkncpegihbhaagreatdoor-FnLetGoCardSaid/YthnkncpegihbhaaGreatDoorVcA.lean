import Derived.Test.YthnkncpegihbhaaGreatDoorWbA
import Derived.Test.YthnkncpegihbhaaGreatDoorDrwA
set_option maxRecDepth 100000
set_option maxHeartbeats 16000000
namespace Go.Proofs.YthnkncpegihbhaaGreatDoor
section
open Go.RowKit
structure jK where
 N:Nat
 B:Nat
 C:Nat
 F:Nat
 K:Nat
 fc:Nat
 kc:Nat
 nf:Nat
 f:Nat
 nk:Nat
 A0:Array Value
 K0:Array Value
abbrev jK.fo(I:jK):Nat:=I.f*7
abbrev jK.ko(I:jK):Nat:=(I.nk-1)*5
structure jK.ok(I:jK):Prop where
 b:I.B<I.N
 c:I.C<I.N
 f:I.F<I.N
 k:I.K<I.N
 bc:I.B≠I.C
 bf:I.B≠I.F
 bk:I.B≠I.K
 cf:I.C≠I.F
 ck:I.C≠I.K
 fk:I.F≠I.K
 hf:I.f<I.nf
 hk:1<=I.nk
 m:I.nf<=2/\I.nk<=2
structure jF where
 lf:Int
 ln:Int
 A:Nat
 va:Option Addr
 vc:Nat
 vl:List Value
 l:List (ND×NA)
 na:Option Addr
 nc:Nat
 sc:Value
def n8(p:ND×NA):List Value:=(kQ p.1 p.2).toList
def Dn(l:List (ND×NA)):List Value:=l.flatMap n8
def jX(I:jK)(S:jF)(u:World)(a:Option Addr)(n:Nat)(q:Nat->Int):Prop:=qO 0 u a n q/\∀b,a=some b->I.N<=b.block/\b.block<u.heap.size/\ig S.na≠some b.block/\ig S.va≠some b.block
def wu(I:jK)(u:World)(va na:Value):Prop:=∃A,OwnB u I.F A/\A[I.fo+4]?=some va/\A[I.fo+6]?=some na/\∀o,o≠I.fo+4->o≠I.fo+6->A[o]?=I.A0[o]?
def xg(I:jK)(u:World)(ln:Int)(sc:Value):Prop:=∃A,OwnB u I.K A/\A[I.ko]?=some (.int .i64 (I.f:Int))/\A[I.ko+1]?=some sc/\A[I.ko+4]?=some (.int .i64 ln)/\∀o,o<I.ko->A[o]?=I.K0[o]?
structure LB(I:jK)(S:jF)(u:World):Prop where
 i:I.ok
 b:OwnB u I.B #[ptr I.C,.slice (some ⟨I.F,0,none⟩) I.nf I.fc,.slice (some ⟨I.K,0,none⟩) I.nk I.kc,.int .i64 S.lf]
 c:CU I.C none 0 0 S.A u
 f:wu I u (.slice S.va S.vl.length S.vc) (.slice S.na S.l.length S.nc)
 k:xg I u S.ln S.sc
 r:u.ownsRow I.N 48 8 (.slice S.na S.l.length S.nc) S.l.length (Dn S.l)
 v:u.ownsRow I.N 9 1 (.slice S.va S.vl.length S.vc) S.vl.length S.vl
 x:∀p,p∈S.l->jX I S u p.2.ra p.1.rn p.1.r/\jX I S u p.2.ka p.1.kn p.1.c/\p.1.kn<=p.2.kc
 n:I.N<=u.heap.size
section
variable {I:jK}{S:jF}{u u':World}
theorem jX.call{a:Option Addr}{n:Nat}{q:Nat->Int}(h:jX I S u a n q)(hb:gZ u u'):jX I S u' a n q:=⟨iF.below h.1 hb,fun b e=>⟨(h.2 b e).1,aH (h.2 b e).2.1 hb.size,(h.2 b e).2.2⟩⟩
theorem jX.gx{a:Option Addr}{n:Nat}{q:Nat->Int}{T:Nat->Prop}{S':jF}(h:jX I S u a n q)(g:Gx T u u')(hT:∀k,T k->k<I.N\/ig S.na=some k\/ig S.va=some k)(hs:∀k,k<u.heap.size->(ig S'.na=some k->ig S.na=some k)/\(ig S'.va=some k->ig S.va=some k)):jX I S' u' a n q:=by
 have hT':∀b,a=some b->¬T b.block:=fun b e t=>by
  obtain⟨h1,h2,h3,h4⟩:=h.2 b e;rcases hT _ t with c|c|c
  ·omega
  ·exact h3 c
  ·exact h4 c
 refine⟨fun h0=>?_,fun b e=>⟨(h.2 b e).1,aH (h.2 b e).2.1 g.size,fun c=>(h.2 b e).2.2.1 ((hs _ (h.2 b e).2.1).1 c),fun c=>(h.2 b e).2.2.2 ((hs _ (h.2 b e).2.1).2 c)⟩⟩;obtain⟨b,off,e,h1,h2,h3⟩:=h.1 h0;exact⟨b,off,e,h1,aH h2 g.size,fun i hi j hj=>(ak (a:=⟨b,off+i*1+j,none⟩) (g.block b h2 (hT' _ e))).trans (h3 i hi j hj)⟩
theorem LB.call(h:LB I S u)(hb:gZ u u'):LB I S u':=by
 obtain⟨A,a1,a2⟩:=h.f;obtain⟨B,b1,b2⟩:=h.k;exact⟨h.i,h.b.call hb,h.c.call hb,⟨A,a1.call hb,a2⟩,⟨B,b1.call hb,b2⟩,q35 h.r hb,q35 h.v hb,fun p hp=>⟨(h.x p hp).1.call hb,(h.x p hp).2.1.call hb,(h.x p hp).2.2⟩,aV h.n hb.size⟩
theorem LB.alloc(h:LB I S u)(o:Obj):LB I S (u.alloc o):=h.call (q01 _ _)
theorem LB.drew(h:LB I S u):LB I S u.drew:=h.call (ay _ _).drew
theorem wu.other{Q o:Nat}{va na v:Value}(h:wu I u va na)(hn:I.F≠Q):wu I (u.setCell ⟨Q,o,none⟩ v) va na:=by
 obtain⟨A,h1,h2⟩:=h;exact⟨A,wO h1 hn,h2⟩
theorem xg.other{Q o:Nat}{ln:Int}{v sc:Value}(h:xg I u ln sc)(hn:I.K≠Q):xg I (u.setCell ⟨Q,o,none⟩ v) ln sc:=by
 obtain⟨A,h1,h2⟩:=h;exact⟨A,wO h1 hn,h2⟩
theorem xg.set{ln z:Int}{sc:Value}(h:xg I u ln sc):xg I (u.setCell ⟨I.K,I.ko+4,none⟩ (.int .i64 z)) z sc:=by
 obtain⟨A,h1,h2,h3,h4,h5⟩:=h;have hs:I.ko+4<A.size:=(aA.1 h4).1;refine⟨_,h1.set (o:=I.ko+4) hs _,?_,?_,?_,fun o ho=>?_⟩
 ·rw[aW (by omega)];exact h2
 ·rw[aW (by omega)];exact h3
 ·rw[bY hs]
 ·rw[aW (by omega)];exact h5 o ho
theorem xg.scp{ln:Int}{sc z:Value}(h:xg I u ln sc):xg I (u.setCell ⟨I.K,I.ko+1,none⟩ z) ln z:=by
 obtain⟨A,h1,h2,h3,h4,h5⟩:=h;have hs:I.ko+1<A.size:=(aA.1 h3).1;refine⟨_,h1.set (o:=I.ko+1) hs _,?_,?_,?_,fun o ho=>?_⟩
 ·rw[aW (by omega)];exact h2
 ·rw[bY hs]
 ·rw[aW (by omega)];exact h4
 ·rw[aW (by omega)];exact h5 o ho
theorem wu.rH{va na v:Value}(h:wu I u va na):wu I (u.setCell ⟨I.F,I.fo+6,none⟩ v) va v:=by
 obtain⟨A,h1,a4,a6,a0⟩:=h;have hs:I.fo+6<A.size:=(aA.1 a6).1;refine⟨_,h1.set (o:=I.fo+6) hs _,?_,?_,fun o o1 o2=>?_⟩
 ·rw[aW (by omega)];exact a4
 ·rw[bY hs]
 ·rw[aW (by omega)];exact a0 o o1 o2
theorem wu.VA{va na v:Value}(h:wu I u va na):wu I (u.setCell ⟨I.F,I.fo+4,none⟩ v) v na:=by
 obtain⟨A,h1,a4,a6,a0⟩:=h;have hs:I.fo+4<A.size:=(aA.1 a4).1;refine⟨_,h1.set (o:=I.fo+4) hs _,?_,?_,fun o o1 o2=>?_⟩
 ·rw[bY hs]
 ·rw[aW (by omega)];exact a6
 ·rw[aW (by omega)];exact a0 o o1 o2
theorem wu.block{va na:Value}(h:wu I u va na)(hs:u.heap.size<=u'.heap.size)(hk:u'.heap[I.F]?=u.heap[I.F]?):wu I u' va na:=by
 obtain⟨A,h1,h2⟩:=h;exact⟨A,h1.block hs hk,h2⟩
theorem xg.block{ln:Int}{sc:Value}(h:xg I u ln sc)(hs:u.heap.size<=u'.heap.size)(hk:u'.heap[I.K]?=u.heap[I.K]?):xg I u' ln sc:=by
 obtain⟨A,h1,h2⟩:=h;exact⟨A,h1.block hs hk,h2⟩
theorem wu.cell{va na:Value}(h:wu I u va na):u.cell? ⟨I.F,I.fo+4,none⟩=some va/\u.cell? ⟨I.F,I.fo+6,none⟩=some na/\(∀o,u.frozen? ⟨I.F,o,none⟩=false)/\I.F<u.heap.size:=by
 obtain⟨A,h1,a4,a6,a0⟩:=h;exact⟨(h1.1.2 (I.fo+4)).trans a4,(h1.1.2 (I.fo+6)).trans a6,h1.2,h1.1.1⟩
theorem xg.cell{ln:Int}{sc:Value}(h:xg I u ln sc):u.cell? ⟨I.K,I.ko,none⟩=some (.int .i64 (I.f:Int))/\u.cell? ⟨I.K,I.ko+4,none⟩=some (.int .i64 ln)/\(∀o,u.frozen? ⟨I.K,o,none⟩=false)/\I.K<u.heap.size/\u.cell? ⟨I.K,I.ko+1,none⟩=some sc:=by
 obtain⟨A,h1,a0,a1,a4,_⟩:=h;exact⟨(h1.1.2 I.ko).trans a0,(h1.1.2 (I.ko+4)).trans a4,h1.2,h1.1.1,(h1.1.2 (I.ko+1)).trans a1⟩
end
structure Lx(I:jK)(S:jF)(u:World)(S':jF)(u':World):Prop where
 s:LB I S' u'
 g:Gx (fun k=>k<I.N/\(k=I.B\/k=I.C\/k=I.F\/k=I.K)\/ig S.na=some k\/ig S.va=some k) u u'
 m:∀k,k<u.heap.size->(ig S'.na=some k->ig S.na=some k)/\(ig S'.va=some k->ig S.va=some k)
theorem Lx.below{I:jK}{S:jF}{u u':World}(h:LB I S u)(hb:gZ u u'):Lx I S u S u':=⟨h.call hb,Gx.below _ hb,fun _ _=>⟨fun e=>e,fun e=>e⟩⟩
theorem Lx.trans{I:jK}{S S' Dx:jF}{u u' u'':World}(h:Lx I S u S' u')(k:Lx I S' u' Dx u''):Lx I S u Dx u'':=by
 refine⟨k.s,h.g.trans k.g (fun i hi e=>?_),fun i hi=>⟨fun e=>(h.m i hi).1 ((k.m i (aH hi h.g.size)).1 e),fun e=>(h.m i hi).2 ((k.m i (aH hi h.g.size)).2 e)⟩⟩;rcases e with e|e|e
 ·exact .inl e
 ·exact .inr (.inl ((h.m i hi).1 e))
 ·exact .inr (.inr ((h.m i hi).2 e))
theorem Lx.row{I:jK}{S S':jF}{u u':World}(h:Lx I S u S' u'){a:Option Addr}{n:Nat}{q:Nat->Int}(k:jX I S u a n q):jX I S' u' a n q:=k.gx h.g (fun i e=>by
 rcases e with e|e|e
 ·exact .inl e.1
 ·exact .inr (.inl e)
 ·exact .inr (.inr e)) h.m
end
section
open Go.RowKit
attribute [local go_sem] iD
attribute [local go_sem ↓] Go.wp_at_zero Go.wp_at_succ
abbrev pA(B o:Nat):Value:=.pointer (some ⟨B,o,none⟩)
theorem NZ(I:jK)(S:jF)(u:World)(h:LB I S u):Calls Tryz.prog 33 #[ptr I.B] u fun e w'=>e=.returned (pA I.K I.ko)/\gZ u w':=by
 have b2:u.cell? ⟨I.B,2,none⟩=some (.slice (some ⟨I.K,0,none⟩) I.nk I.kc):=h.b.1.cell 2 rfl;have hbl:=h.b.1.1;have hk:=h.i.hk;have hm:=h.i.m.2;have HS:Hid (I.ko=(I.nk-1)*5):=rfl;rw[HS.out];generalize I.nk=nk at *;rcases(show nk=1\/nk=2 by omega) with rfl|rfl;all_goals
  go_in
  go_upto_region 1 with fail
  go_region_with fail
  all_goals
   go_wp2_with fail;go_ret
   first
   |exact⟨rfl,(ay _ _).drew⟩
   |exact⟨rfl,ay _ _⟩
theorem VY(I:jK)(S:jF)(u:World)(h:LB I S u):Calls Tryz.prog 31 #[ptr I.B] u fun e w'=>e=.returned (pA I.F I.fo)/\gZ u w':=by
 have HL:Hid (LB I S u):=h;have hbl:=h.b.1.1;have gU:(0:Int)<=(I.f:Int):=aS _;have hi1:(I.f:Int)<(I.nf:Int):=by have:=h.i.hf;omega
 have HC:Hid (∀w,gZ u w->w.cell? ⟨I.B,1,none⟩=some (.slice (some ⟨I.F,0,none⟩) I.nf I.fc)/\w.cell? ⟨I.K,I.ko,none⟩=some (.int .i64 (I.f:Int))):=fun w hw=>⟨(h.b.call hw).1.cell 1 rfl,(h.call hw).k.cell.1⟩;go_in
 go_upto_region 1 with fail
 go_region_held3 (fun w=>w.cell? ⟨I.B,1,none⟩=some (.slice (some ⟨I.F,0,none⟩) I.nf I.fc)/\w.cell? ⟨I.K,I.ko,none⟩=some (.int .i64 (I.f:Int))) (first|(refine HC.out _ ?_;(repeat(first|exact fB.out|exact q32 _|refine ny ?_));done))
  (first|(go_at_call 33;refine(NZ I S _ ?_).mono ?_;(first|exact HL.out|exact HL.drew);rintro e w1 ⟨rfl,hb⟩;have fB:Hid (gZ u w1):=iq (ny (q32 u)) hb))
 all_goals
  go_wp2_with fail;go_ret;refine⟨?_,fB⟩
  first
  |rfl
  |(show _=Ending.returned (pA I.F (I.f*7));congr 4;omega)
theorem yc5:(Tryz.prog.info? 48).map (fun i=>(i.zero,i.size,i.bytes))=some (some (.agg #[.int .i64 0,.int .i64 0,.int .i64 0,.int .i64 0,.float .f64 0,.string ⟨#[]⟩,.slice none 0 0,.slice none 0 0]),8,104):=by kernel_rfl
theorem j79(p:ND×NA):∀y∈n8 p,y.oneCell'=true:=by simp[n8,Value.oneCell']
theorem LB.left{I:jK}{S:jF}{u:World}(h:LB I S u)(z:Int):Lx I S u {S with lf:=z} (u.setCell ⟨I.B,3,none⟩ (.int .i64 z)):=by
 have hi:=h.i;have hB:∀k,I.N<=k->k≠I.B:=fun k hk e=>by have:=hi.b;omega
 have g:Gx (fun k=>k=I.B) u (u.setCell ⟨I.B,3,none⟩ (.int .i64 z)):=Gx.set u I.B 3 _;refine⟨⟨hi,h.b.set (o:=3) (by show 3<4;omega) _,?_,h.f.other hi.bf.symm,h.k.other hi.bk.symm,q23 h.r _ fun k e=>hB k (jm h.r ((jg _ _ _).symm.trans e)).1,q23 h.v _ fun k e=>hB k (jm h.v ((jg _ _ _).symm.trans e)).1,fun p hp=>?_,by simpa using h.n⟩,g.mono (fun k e=>.inl (by subst e;exact⟨hi.b,.inl rfl⟩)),fun _ _=>⟨fun e=>e,fun e=>e⟩⟩
 ·obtain⟨t,s,h1,h2⟩:=h.c;have hk:(u.setCell ⟨I.B,3,none⟩ (.int .i64 z)).heap[I.C]?=u.heap[I.C]?:=aK _ _ _ _ hi.bc.symm;exact⟨t,s,h1,by simpa using h2.lt,⟨(ak (a:=⟨I.C,0,none⟩) hk).trans h2.c.1,(ak (a:=⟨I.C,1,none⟩) hk).trans h2.c.2.1,(ak (a:=⟨I.C,2,none⟩) hk).trans h2.c.2.2⟩,fun o=>(bD (a:=⟨I.C,o,none⟩) hk).trans (h2.fr o),fun i hi=>absurd hi (aT _)⟩
 ·obtain⟨x1,x2,x3⟩:=h.x p hp;have hq:∀{a:Option Addr} {n:Nat} {q:Nat->Int},jX I S u a n q->jX I {S with lf:=z} (u.setCell ⟨I.B,3,none⟩ (.int .i64 z)) a n q:=fun r=>r.gx g (fun k e=>.inl (by subst e;exact hi.b)) (fun _ _=>⟨fun e=>e,fun e=>e⟩);exact⟨hq x1,hq x2,x3⟩
def jF.add(S:jF)(p:ND×NA)(na:Option Addr)(nc:Nat):jF:={S with l:=S.l++[p],na:=na,nc:=nc}
theorem LB.push{I:jK}{S:jF}{u w7:World}(h:LB I S u)(d:ND)(x:NA)(hr:jX I S u x.ra d.rn d.r)(hk:jX I S u x.ka d.kn d.c)(hc:d.kn<=x.kc){v':Value}(ho:w7.ownsRow I.N 48 8 v' (S.l.length+1) (Dn S.l++n8 (d,x)))(hg:u.grownBy w7 (Value.slice S.na S.l.length S.nc).ownBlock)(hat:v'.ownBlock=(Value.slice S.na S.l.length S.nc).ownBlock\/v'.ownBlock=some u.heap.size):∃na nc,v'=.slice na (S.l.length+1) nc/\Lx I S u (S.add (d,x) na nc) (w7.setCell ⟨I.F,I.fo+6,none⟩ v'):=by
 obtain⟨na,nc,rfl⟩:=zO ho;rw[jg] at hg;rw[jg,jg] at hat;have hi:=h.i;have hgx:Gx (fun k=>ig S.na=some k) u w7:=Gx.grown hg;have hN:∀k,ig S.na=some k->I.N<=k:=fun k e=>(jm h.r e).1;have g:Gx (fun k=>k=I.F\/ig S.na=some k) u (w7.setCell ⟨I.F,I.fo+6,none⟩ (.slice na (S.l.length+1) nc)):=(hgx.mono (fun k e=>.inr e)).trans (Gx.set w7 I.F (I.fo+6) _) (fun _ _ e=>.inl e);have hm:∀k,k<u.heap.size->(ig na=some k->ig S.na=some k):=fun k hk e=>by
  rcases hat with c|c
  ·exact c.symm.trans e
  ·rw[c] at e;have:=aQ e;omega
 have hb:∀k,k<I.N->w7.heap[k]?=u.heap[k]?:=fun k hk=>hgx.block k (by have:=h.n;omega) (fun e=>by have:=hN k e;omega);have hq:∀{a:Option Addr} {n:Nat} {q:Nat->Int},jX I S u a n q->jX I (S.add (d,x) na nc) (w7.setCell ⟨I.F,I.fo+6,none⟩ (.slice na (S.l.length+1) nc)) a n q:=fun r=>r.gx g (fun k e=>by
  rcases e with e|e
  ·exact .inl (e ▸ hi.f)
  ·exact .inr (.inl e)) (fun k hk=>⟨hm k hk,fun e=>e⟩)
 have hF:∀k,I.N<=k->k≠I.F:=fun k hk e=>by have:=hi.f;omega
 refine⟨na,nc,rfl,⟨hi,wO (h.b.block hgx.size (hb _ hi.b)) hi.bf,?_,?_,(h.k.block hgx.size (hb _ hi.k)).other hi.fk.symm,?_,?_,fun p hp=>?_,by have:=hgx.size;have:=h.n;simp;omega⟩,g.mono (fun k e=>?_),fun k hk=>⟨hm k hk,fun e=>e⟩⟩
 ·obtain⟨t,s,h1,h2⟩:=h.c;have hk:(w7.setCell ⟨I.F,I.fo+6,none⟩ (.slice na (S.l.length+1) nc)).heap[I.C]?=u.heap[I.C]?:=(aK _ _ _ _ hi.cf).trans (hb _ hi.c);exact⟨t,s,h1,by have:=hgx.size;have:=h2.lt;simp;omega,⟨(ak (a:=⟨I.C,0,none⟩) hk).trans h2.c.1,(ak (a:=⟨I.C,1,none⟩) hk).trans h2.c.2.1,(ak (a:=⟨I.C,2,none⟩) hk).trans h2.c.2.2⟩,fun o=>(bD (a:=⟨I.C,o,none⟩) hk).trans (h2.fr o),fun i hi=>absurd hi (aT _)⟩
 ·have:=(h.f.block hgx.size (hb _ hi.f)).rH (v:=.slice na (S.l.length+1) nc);show wu _ _ _ (.slice na (S.l++[(d,x)]).length nc);rw[aU];exact this
 ·show World.ownsRow _ _ _ _ (.slice na (S.l++[(d,x)]).length nc) (S.l++[(d,x)]).length (Dn (S.l++[(d,x)]));rw[aU,show Dn (S.l++[(d,x)])=Dn S.l++n8 (d,x) by simp[Dn]];exact q23 ho _ fun k e=>hF k (jm ho ((jg _ _ _).symm.trans e)).1
 ·refine q23 ?_ _ fun k e=>hF k (jm h.v ((jg _ _ _).symm.trans e)).1;refine nY h.v fun k e=>?_;have e':=(jg _ _ _).symm.trans e;exact hgx.block k (jm h.v e').2 (fun c=>qP h.v h.r (by decide) e' c)
 ·rcases dD.1 hp with hp|hp
  ·obtain⟨x1,x2,x3⟩:=h.x p hp;exact⟨hq x1,hq x2,x3⟩
  ·obtain rfl:p=(d,x):=by simpa using hp
   exact⟨hq hr,hq hk,hc⟩
 ·rcases e with e|e
  ·exact .inl ⟨e ▸ hi.f,.inr (.inr (.inl e))⟩
  ·exact .inr (.inl e)
theorem Wy(I:jK)(S:jF)(d:ND)(x:NA)(u:World)(h:LB I S u)(hr:jX I S u x.ra d.rn d.r)(hk:jX I S u x.ka d.kn d.c)(hc:d.kn<=x.kc)(hl:S.l.length<=1000)(hf1:1000<=S.lf)(hf2:S.lf<=100000):Calls Tryz.prog 13 #[ptr I.B,jP d x] u fun e w'=>e=.returned (.int .i64 (S.l.length:Int))/\∃na nc,Lx I S u ({S with lf:=S.lf-1}.add (d,x) na nc) w':=by
 have HL:Hid (LB I S u/\jX I S u x.ra d.rn d.r/\jX I S u x.ka d.kn d.c):=⟨h,hr,hk⟩;have b3:=h.b.1.cell 3 rfl;have bz:=h.b.2;have hbl:=h.b.1.1;have hw:IntKind.i64.wrap (S.lf-1)=S.lf-1:=by simp[IntKind.wrap,IntKind.bits,IntKind.signed];omega
 show Calls Tryz.prog 13 #[ptr I.B,.agg #[.int .i64 d.k,.int .i64 d.l,.int .i64 d.o,.int .i64 d.n,.float .f64 d.f,.string d.s,.slice x.ra d.rn x.rc,.slice x.ka d.kn x.kc]] u fun e w'=>e=.returned (.int .i64 (S.l.length:Int))/\∃na nc,Lx I S u ({S with lf:=S.lf-1}.add (d,x) na nc) w';go_in;go_wp2_with fail;have H1:Hid (Lx I S u {S with lf:=S.lf-1} ((u.setCell ⟨I.B,3,none⟩ (.int .i64 (S.lf-1))).alloc (.cells #[.int .i64 d.k,.int .i64 d.l,.int .i64 d.o,.int .i64 d.n,.float .f64 d.f,.string d.s,.slice x.ra d.rn x.rc,.slice x.ka d.kn x.kc] 48))):=(HL.1.left (S.lf-1)).trans (Lx.below (HL.1.left (S.lf-1)).s (q01 _ _));refine(VY I _ _ H1.s).mono ?_;rintro e w1 ⟨rfl,eu⟩;have H2:Hid (Lx I S u {S with lf:=S.lf-1} w1/\Has w1 u.heap.size (kQ d x)):=by
  refine⟨H1.trans (Lx.below H1.s eu),?_⟩;have h9:=(Has.new (u.setCell ⟨I.B,3,none⟩ (.int .i64 (S.lf-1))) (kQ d x) 48).call eu;rw[World.size_setCell] at h9;exact h9
 have f6:=H2.1.s.f.cell.2.1;have fz:=H2.1.s.f.cell.2.2.1;have hfl:=H2.1.s.f.cell.2.2.2;have n0:=H2.2.cell 0 rfl;have n1:=H2.2.cell 1 rfl;have n2:=H2.2.cell 2 rfl;have n3:=H2.2.cell 3 rfl;have n4:=H2.2.cell 4 rfl;have n5:=H2.2.cell 5 rfl;have n6:=H2.2.cell 6 rfl;have n7:=H2.2.cell 7 rfl;have hul:u.heap.size<w1.heap.size:=H2.2.1;obtain⟨S1,hS1⟩:∃S1,S1={S with lf:=S.lf-1}:=⟨_,rfl⟩;obtain⟨i0,gU,gQ,hy1,hy2⟩:=bT yc5;have HD:Hid (LB I {S with lf:=S.lf-1} (w1.alloc (.cells (kQ d x) 48)).drew):=(H2.1.s.alloc _).drew;obtain⟨v',w7,gq,gB,gY,_,hat⟩:=run_append_own_at (P:=Tryz.prog) (w1.alloc (.cells (kQ d x) 48)).drew I.N 93 93 48 i0 _ 8 104 Tryz.underlying93 gU gQ hy1 hy2 rfl (by decide) (.slice S.na S.l.length S.nc) S.l.length (Dn S.l) HD.r ⟨w1.heap.size,0,none⟩ 1 1 (n8 (d,x)) rfl (Az w1 (kQ d x) _) (j79 _) (by unfold maxLen;omega) (by omega) (by have:=HD.n;exact this);have hrk:jX I {S with lf:=S.lf-1} (w1.alloc (.cells (kQ d x) 48)).drew x.ra d.rn d.r/\jX I {S with lf:=S.lf-1} (w1.alloc (.cells (kQ d x) 48)).drew x.ka d.kn d.c:=⟨((H2.1.row HL.2.1).call (q01 _ _)).call (ny (q32 _)),((H2.1.row HL.2.2).call (q01 _ _)).call (ny (q32 _))⟩;obtain⟨na,nc,rfl,hpush⟩:=HD.push d x hrk.1 hrk.2 hc gB gY hat;have HN:Hid (Lx I S u ({S with lf:=S.lf-1}.add (d,x) na nc) (w7.setCell ⟨I.F,I.fo+6,none⟩ (.slice na (S.l.length+1) nc))):=(H2.1.trans (Lx.below H2.1.s ((q01 _ _).drew))).trans hpush;have f7:w7.cell? ⟨I.F,I.fo+6,none⟩=some (.slice S.na S.l.length S.nc):=by
  have hn:ig S.na≠some I.F:=fun e=>by have h1:=(jm HD.r e).1;have h2:=HD.i.f;omega
  rw[jg] at gY;exact(ak (a:=⟨I.F,I.fo+6,none⟩) (gY.block I.F (by simp;omega) (fun e=>hn e.symm))).trans HD.f.cell.2.1
 have f7z:∀o,w7.frozen? ⟨I.F,o,none⟩=false:=fun o=>by
  have hn:ig S.na≠some I.F:=fun e=>by have h1:=(jm HD.r e).1;have h2:=HD.i.f;omega
  rw[jg] at gY;exact(bD (a:=⟨I.F,o,none⟩) (gY.block I.F (by simp;omega) (fun e=>hn e.symm))).trans (HD.f.cell.2.2.1 o)
 have hF7:I.F<w7.heap.size:=by have h1:=gY.size;simp at h1;omega
 go_upto_region 3 with fail
 go_region_law (first
  |(refine xU (by rfl) _ _ _ _ (by rfl) (.slice S.na S.l.length S.nc) (.slice (some ⟨w1.heap.size,0,none⟩) 1 1) _ _ (by rfl) (by rfl) gq ?_))
 all_goals
  have f8:(w7.setCell ⟨I.F,I.fo+6,none⟩ (.slice na (S.l.length+1) nc)).cell? ⟨I.F,I.fo+6,none⟩=some (.slice na (S.l.length+1) nc):=by
   have:=HN.s.f.cell.2.1;simpa[jF.add] using this
  generalize w7.setCell ⟨I.F,I.fo+6,none⟩ (.slice na (S.l.length+1) nc)=w8 at *;go_wp2_with fail;go_ret;refine⟨?_,na,nc,HN⟩
  first
  |rfl
  |(congr 2;go_num)
  |(congr 2;omega)
theorem Dl{z:Int}(h1:-1000000<=z)(h2:z<=1000000):IntKind.i64.wrap z=z:=by
 simp[IntKind.wrap,IntKind.bits,IntKind.signed];omega
theorem LB.pick{I:jK}{S:jF}{u u':World}(h:LB I S u)(hc:CU I.C none 0 0 (S.A+2) u')(hg:u.grownBy u' (some I.C)):Lx I S u {S with A:=S.A+2} u':=by
 have hi:=h.i;have g:Gx (fun k=>k=I.C) u u':=(Gx.grown hg).mono (fun k e=>(aQ e).symm);have hb:∀k,k<u.heap.size->k≠I.C->u'.heap[k]?=u.heap[k]?:=fun k hk e=>g.block k hk e;have hq:∀{a:Option Addr} {n:Nat} {q:Nat->Int},jX I S u a n q->jX I {S with A:=S.A+2} u' a n q:=fun r=>r.gx g (fun k e=>.inl (e ▸ hi.c)) (fun _ _=>⟨fun e=>e,fun e=>e⟩);have hn:=h.n;have h1:=hi.b;have h2:=hi.c;have h3:=hi.f;have h4:=hi.k;exact⟨⟨hi,h.b.block g.size (hb _ (by omega) hi.bc),hc,h.f.block g.size (hb _ (by omega) hi.cf.symm),h.k.block g.size (hb _ (by omega) hi.ck.symm),nY h.r (fun k e=>by
  have:=jm h.r ((jg _ _ _).symm.trans e);exact hb k this.2 (by omega)),nY h.v (fun k e=>by
  have:=jm h.v ((jg _ _ _).symm.trans e);exact hb k this.2 (by omega)),fun p hp=>⟨hq (h.x p hp).1,hq (h.x p hp).2.1,(h.x p hp).2.2⟩,aV hn g.size⟩,g.mono (fun k e=>.inl (by subst e;exact⟨hi.c,.inr (.inl rfl)⟩)),fun _ _=>⟨fun e=>e,fun e=>e⟩⟩
theorem LB.lineS{I:jK}{S:jF}{u:World}(h:LB I S u)(z:Int):Lx I S u {S with ln:=z} (u.setCell ⟨I.K,I.ko+4,none⟩ (.int .i64 z)):=by
 have hi:=h.i;have hB:∀k,I.N<=k->k≠I.K:=fun k hk e=>by have:=hi.k;omega
 have g:Gx (fun k=>k=I.K) u (u.setCell ⟨I.K,I.ko+4,none⟩ (.int .i64 z)):=Gx.set u I.K (I.ko+4) _;refine⟨⟨hi,wO h.b hi.bk,?_,h.f.other hi.fk,h.k.set,q23 h.r _ fun k e=>hB k (jm h.r ((jg _ _ _).symm.trans e)).1,q23 h.v _ fun k e=>hB k (jm h.v ((jg _ _ _).symm.trans e)).1,fun p hp=>?_,by simpa using h.n⟩,g.mono (fun k e=>.inl (by subst e;exact⟨hi.k,.inr (.inr (.inr rfl))⟩)),fun _ _=>⟨fun e=>e,fun e=>e⟩⟩
 ·obtain⟨t,s,h1,h2⟩:=h.c;have hk:(u.setCell ⟨I.K,I.ko+4,none⟩ (.int .i64 z)).heap[I.C]?=u.heap[I.C]?:=aK _ _ _ _ hi.ck;exact⟨t,s,h1,by simpa using h2.lt,⟨(ak (a:=⟨I.C,0,none⟩) hk).trans h2.c.1,(ak (a:=⟨I.C,1,none⟩) hk).trans h2.c.2.1,(ak (a:=⟨I.C,2,none⟩) hk).trans h2.c.2.2⟩,fun o=>(bD (a:=⟨I.C,o,none⟩) hk).trans (h2.fr o),fun i hi=>absurd hi (aT _)⟩
 ·obtain⟨x1,x2,x3⟩:=h.x p hp;have hq:∀{a:Option Addr} {n:Nat} {q:Nat->Int},jX I S u a n q->jX I {S with ln:=z} (u.setCell ⟨I.K,I.ko+4,none⟩ (.int .i64 z)) a n q:=fun r=>r.gx g (fun k e=>.inl (by subst e;exact hi.k)) (fun _ _=>⟨fun e=>e,fun e=>e⟩);exact⟨hq x1,hq x2,x3⟩
abbrev jF.lined(S:jF)(v:Int):jF:={S with A:=S.A+2,ln:=S.ln+v}
theorem Wx(I:jK)(S:jF)(u:World)(h:LB I S u)(hA:S.A<1000)(h1:0<=S.ln)(h2:S.ln<=1000):Calls Tryz.prog 20 #[ptr I.B] u fun e w'=>∃v:Int,0<=v/\v<=2/\e=.returned (.int .i64 (1+(S.ln+v)))/\Lx I S u (S.lined v) w':=by
 have HL:Hid (LB I S u):=h;go_in
 go_upto_region 1 with fail
 have hb0:=HL.b.1.cell 0 rfl;have hk0:=HL.k.cell.2.1
 go_region_with
  (first
   |(go_at_call 33;refine(NZ I S _ ?_).mono ?_;(first|exact HL.out|exact HL.drew);rintro e w1 ⟨rfl,hb⟩;have fB:Hid (gZ u w1):=iq (ny (q32 u)) hb;have hk1:=(HL.call fB.out).k.cell.2.1;have eu:=(HL.call fB.out).b.1.cell 0 rfl)
   |(go_at_call 34;refine(zy9 I.C none 0 0 S.A 3 _ (by omega) (by omega) (by omega) ?_).mono ?_;exact(HL.call fB).c;rintro e w2 ⟨⟨v,rfl,hv1,hv2⟩,hc,hg⟩;have H2:Hid (Lx I S u {S with A:=S.A+2} w2):=(Lx.below HL.out fB.out).trans ((HL.call fB.out).pick hc hg);have hwv:IntKind.i64.wrap (S.ln+v)=S.ln+v:=Dl (by omega) (by omega);have eG:=H2.s.b.1.cell 0 rfl;have kz:=H2.s.k.cell.2.2.1;have kc:=H2.s.k.cell.2.1;have kl:=H2.s.k.cell.2.2.2.1))
 all_goals
  have H3:Hid (Lx I S u (S.lined v) (w2.setCell ⟨I.K,I.ko+4,none⟩ (.int .i64 (S.ln+v)))):=H2.trans (H2.s.lineS (S.ln+v));generalize w2.setCell ⟨I.K,I.ko+4,none⟩ (.int .i64 (S.ln+v))=w3 at *;go_wp2_with fail;refine(NZ I _ _ H3.s).mono ?_;rintro e w4 ⟨rfl,eU⟩;have H4:Hid (Lx I S u (S.lined v) w4):=H3.trans (Lx.below H3.s eU);have k4:=H4.s.k.cell.2.1;have hw4:IntKind.i64.wrap (1+(S.ln+v))=1+(S.ln+v):=Dl (by omega) (by omega);go_wp2_with fail;go_ret;exact⟨v,hv1,by omega,rfl,H4.out⟩
structure IL where
 a:Option Addr
 n:Nat
 c:Nat
 q:Nat->Int
abbrev Dt(r:IL):Value:=.slice r.a r.n r.c
abbrev jB:IL:=⟨none,0,0,fun _=>0⟩
abbrev oG(k l n:Int)(r c:IL):ND:=⟨k,l,0,n,0,⟨#[]⟩,r.n,r.q,c.n,c.q⟩
abbrev oC(r c:IL):NA:=⟨r.a,r.c,c.a,c.c⟩
theorem mD(I:jK)(S:jF)(u:World):jX I S u none 0 (fun _=>0):=⟨fun h=>absurd h (aT _),fun _ e=>nomatch e⟩
structure Gd(S:jF)(n:Nat):Prop where
 l:S.l.length<=n
 f1:2000<=S.lf+n
 f2:S.lf<=100000
 A:S.A<=2*n
 n1:0<=S.ln
 n2:S.ln<=2*n
structure Ad(I:jK)(S:jF)(u:World)(d:ND)(x:NA)(S':jF)(w':World):Prop where
 lx:Lx I S u S' w'
 l:S'.l=S.l++[(d,x)]
 va:S'.va=S.va/\S'.vc=S.vc/\S'.vl=S.vl
 sc:S'.sc=S.sc
theorem Gd.lf{S:jF}{n:Nat}(h:Gd S n)(hn:n<=450):1000<=S.lf:=by have:=h.f1;omega
theorem WA(I:jK)(S:jF)(k:Int)(r c:IL)(n:Nat)(u:World)(h:LB I S u)(hg:Gd S n)(hn:n<=450)(hr:jX I S u r.a r.n r.q)(hc:jX I S u c.a c.n c.q)(hcc:c.n<=c.c):Calls Tryz.prog 23 #[ptr I.B,.int .i64 k,Dt r,Dt c] u fun e w'=>e=.returned (.int .i64 (S.l.length:Int))/\∃(l:Int) (S':jF),1<=l/\l<=1000/\Ad I S u (oG k l 0 r c) (oC r c) S' w'/\Gd S' (n+1):=by
 have HL:Hid (LB I S u/\Gd S n/\jX I S u r.a r.n r.q/\jX I S u c.a c.n c.q):=⟨h,hg,hr,hc⟩;go_in;go_wp2_with fail;refine(Wx I S _ HL.1 (by have:=HL.2.1.A;omega) HL.2.1.n1 (by have:=HL.2.1.n2;omega)).mono ?_;rintro e w1 ⟨v,hv1,hv2,rfl,hx⟩;have HX:Hid (Lx I S u (S.lined v) w1):=hx;go_wp2_with fail;have hN:=Wy I (S.lined v) (oG k (1+(S.ln+v)) 0 r c) (oC r c) w1 HX.s (HX.row HL.2.2.1) (HX.row HL.2.2.2) hcc (by have:=HL.2.1.l;show S.l.length<=1000;omega) (HL.2.1.lf hn) HL.2.1.f2;refine hN.mono ?_;rintro e w2 ⟨rfl,na,nc,hy⟩;have HY:Hid _:=HX.trans hy;go_wp2_with fail;go_ret;have g:=HL.2.1;have g1:=g.l;have g2:=g.f1;have g3:=g.f2;have g4:=g.A;have g5:=g.n1;have g6:=g.n2;refine⟨rfl,1+(S.ln+v),_,by omega,by omega,⟨HY.out,rfl,⟨rfl,rfl,rfl⟩,rfl⟩,⟨?_,?_,?_,?_,?_,?_⟩⟩
 ·show(S.l++[_]).length<=n+1;simp;omega
 ·show 2000<=S.lf-1+(n+1:Nat);omega
 ·show S.lf-1<=100000;omega
 ·show S.A+2<=2*(n+1);omega
 ·show 0<=S.ln+v;omega
 ·show S.ln+v<=2*(n+1:Nat);omega
theorem Gd.add{S:jF}{n:Nat}(g:Gd S n)(p:ND×NA)(na:Option Addr)(nc:Nat):Gd ({S with lf:=S.lf-1}.add p na nc) (n+1):=by
 have g1:=g.l;have g2:=g.f1;have g3:=g.f2;have g4:=g.A;have g5:=g.n1;have g6:=g.n2;refine⟨?_,?_,?_,?_,?_,?_⟩
 ·show(S.l++[_]).length<=n+1;simp;omega
 ·show 2000<=S.lf-1+(n+1:Nat);omega
 ·show S.lf-1<=100000;omega
 ·show S.A<=2*(n+1);omega
 ·exact g5
 ·show S.ln<=2*(n+1:Nat);omega
def Aj(I:jK)(S:jF)(u:World)(d:ND)(x:NA)(n:Nat)(e:Ending)(w':World):Prop:=e=.returned (.int .i64 (S.l.length:Int))/\∃S',Ad I S u d x S' w'/\Gd S' (n+1)
theorem IU(I:jK)(S:jF)(d:ND)(x:NA)(n:Nat)(u:World)(h:LB I S u)(hg:Gd S n)(hn:n<=450)(hr:jX I S u x.ra d.rn d.r)(hk:jX I S u x.ka d.kn d.c)(hc:d.kn<=x.kc):Calls Tryz.prog 13 #[ptr I.B,jP d x] u fun e w'=>Aj I S u d x n e w':=
 (Wy I S d x u h hr hk hc (by have:=hg.l;omega) (hg.lf hn) hg.f2).mono (by
  rintro e w' ⟨rfl,na,nc,hx⟩;exact⟨rfl,_,⟨hx,rfl,⟨rfl,rfl,rfl⟩,rfl⟩,hg.add _ na nc⟩)
theorem Aj.first{I:jK}{S:jF}{u u1:World}{d:ND}{x:NA}{n:Nat}{e:Ending}{w':World}(h:LB I S u)(hb:gZ u u1)(k:Aj I S u1 d x n e w'):Aj I S u d x n e w':=by
 obtain⟨rfl,S',ha,hg⟩:=k;exact⟨rfl,S',⟨(Lx.below h hb).trans ha.lx,ha.l,ha.va,ha.sc⟩,hg⟩
theorem qw5(I:jK)(S:jF)(n:Nat)(u:World)(h:LB I S u)(hg:Gd S n)(hn:n<=450):Calls Tryz.prog 14 #[ptr I.B,.int .i64 0] u fun e w'=>Aj I S u (oG 28 0 0 jB jB) (oC jB jB) n e w':=by
 have HN:Hid _:=IU I S (oG 28 0 0 jB jB) (oC jB jB) n u h hg hn (mD _ _ _) (mD _ _ _) (ah _);go_in;go_wp2_with fail;refine dV HN ?_;rintro e w1 ⟨rfl,hx⟩;have HX:Hid _:=hx;go_wp2_with fail;go_ret;exact⟨rfl,HX⟩
theorem zo1(I:jK)(S:jF)(z:Int)(n:Nat)(u:World)(h:LB I S u)(hg:Gd S n)(hn:n<=450):Calls Tryz.prog 19 #[ptr I.B,.int .i64 z] u fun e w'=>Aj I S u (oG 23 0 z jB jB) (oC jB jB) n e w':=by
 have HN:Hid _:=IU I S (oG 23 0 z jB jB) (oC jB jB) n u h hg hn (mD _ _ _) (mD _ _ _) (ah _);go_in;go_wp2_with fail;refine dV HN ?_;rintro e w1 ⟨rfl,hx⟩;have HX:Hid _:=hx;go_wp2_with fail;go_ret;exact⟨rfl,HX⟩
theorem qq5(I:jK)(S:jF)(k:Int)(c:IL)(n:Nat)(u:World)(h:LB I S u)(hg:Gd S n)(hn:n<=450)(hc:jX I S u c.a c.n c.q)(hcc:c.n<=c.c):Calls Tryz.prog 18 #[ptr I.B,.int .i64 k,Dt c] u fun e w'=>Aj I S u (oG k 0 0 jB c) (oC jB c) n e w':=by
 have HN:Hid _:=IU I S (oG k 0 0 jB c) (oC jB c) n u h hg hn (mD _ _ _) hc hcc;go_in;go_wp2_with fail;refine dV HN ?_;rintro e w1 ⟨rfl,hx⟩;have HX:Hid _:=hx;go_wp2_with fail;go_ret;exact⟨rfl,HX⟩
theorem qq6(I:jK)(S:jF)(c:IL)(n:Nat)(u:World)(h:LB I S u)(hg:Gd S n)(hn:n<=450)(hc:jX I S u c.a c.n c.q)(hcc:c.n<=c.c):Calls Tryz.prog 15 #[ptr I.B,Dt c] u fun e w'=>Aj I S u (oG 34 0 0 jB c) (oC jB c) n e w':=by
 have HN:Hid _:=qq5 I S 34 c n u h hg hn hc hcc;go_in;go_wp2_with fail;refine dV HN ?_;rintro e w1 ⟨rfl,hx⟩;have HX:Hid _:=hx;go_wp2_with fail;go_ret;exact⟨rfl,HX⟩
theorem Gg{I:jK}{S:jF}{u:World}(h:LB I S u)(z:Int)(t:TypeId):jX I S (u.alloc (.cells #[.int .i64 z] t)) (some ⟨u.heap.size,0,none⟩) 1 (fun _=>z):=by
 refine⟨fun _=>⟨u.heap.size,0,rfl,aF _,by simp,fun i hi j hj=>?_⟩,fun b e=>?_⟩
 ·obtain rfl:i=0:=by omega
  obtain rfl:j=0:=by omega
  exact(Has.new u #[.int .i64 z] t).2 0
 ·cases e;exact⟨h.n,by simp,fun e=>dF _ (jm h.r e).2,fun e=>dF _ (jm h.v e).2⟩
theorem qr7(I:jK)(S:jF)(z:Int)(n:Nat)(u:World)(h:LB I S u)(hg:Gd S n)(hn:n<=450):Calls Tryz.prog 17 #[ptr I.B,.int .i64 z] u fun e w'=>Aj I S u (oG 26 0 0 ⟨some ⟨u.heap.size,0,none⟩,1,1,fun _=>z⟩ jB) (oC ⟨some ⟨u.heap.size,0,none⟩,1,1,fun _=>z⟩ jB) n e w':=by
 have HL:Hid (LB I S u):=h;have HN:Hid _:=IU I S (oG 26 0 0 ⟨some ⟨u.heap.size,0,none⟩,1,1,fun _=>z⟩ jB) (oC ⟨some ⟨u.heap.size,0,none⟩,1,1,fun _=>z⟩ jB) n (u.alloc (.cells #[.int .i64 z] 3)) (h.alloc _) hg hn (Gg h z _) (mD _ _ _) (ah _);go_in;go_wp2_with fail;refine dV HN ?_;intro e w1 hx;have HX:=Aj.first HL.out (q01 _ _) hx;obtain⟨rfl,hy⟩:=HX;have HY:Hid _:=hy;go_wp2_with fail;go_ret;exact⟨rfl,HY⟩
theorem zn9(v:World)(o:Obj):(v.alloc o).heap[v.heap.size]?=some o:=by
 show(v.heap.push o)[v.heap.size]?=some o;exact Array.getElem?_push_size
theorem qv5{I:jK}{S:jF}{u:World}(h:LB I S u)(z:Int):(u.alloc (.cells #[.int .i64 z] 3)).ownsRow I.N 3 1 (.slice (some ⟨u.heap.size,0,none⟩) 1 1) 1 [.int .i64 z]:=
 ⟨rfl,.inr ⟨u.heap.size,1,#[.int .i64 z],rfl,h.n,zn9 u _,ah _,by unfold maxLen;omega,rfl,rfl⟩⟩
abbrev FN(f:Int)(q:Nat->Int)(j:Nat):List Value:=.int .i64 f :: (List.range j).map fun t=>.int .i64 (q t)
abbrev D7(f:Int)(q:Nat->Int)(j:Nat):Int:=if j=0 then f else q (j-1)
theorem yy1(f:Int)(q:Nat->Int)(m i:Nat)(h:i<m+1):(FN f q m)[i]?=some (.int .i64 (D7 f q i)):=by
 rcases i with _|i
 ·rfl
 ·show((List.range m).map fun t=>Value.int .i64 (q t))[i]?=_;rw[dW,List.getElem?_range (by omega)];simp[D7]
theorem yj1(f:Int)(q:Nat->Int)(j:Nat):FN f q (j+1)=FN f q j++[.int .i64 (q j)]:=by simp[FN,bU]
theorem j67{I:jK}{S:jF}{u w7:World}(h:LB I S u){g c m:Nat}{f:Int}{q:Nat->Int}(ho:w7.ownsRow I.N 3 1 (.slice (some ⟨g,0,none⟩) (m+1) c) (m+1) (FN f q m))(hg:u.heap.size<=g):jX I S w7 (some ⟨g,0,none⟩) (m+1) (D7 f q):=by
 refine⟨fun _=>⟨g,0,rfl,aF _,(jm ho rfl).2,fun i hi j hj=>?_⟩,fun b e=>?_⟩
 ·obtain rfl:j=0:=by omega
  have:=ho.cells (g:=g) rfl i _ (yy1 f q m i hi);rw[show 0+i*1+0=i by omega]
  cases i<;>simpa[Addr.add] using this
 ·cases e;exact⟨by have:=h.n;show I.N<=g;omega,(jm ho rfl).2,fun e=>by have h1:=(jm h.r e).2;replace h1:g<u.heap.size:=h1;omega,fun e=>by have h1:=(jm h.v e).2;replace h1:g<u.heap.size:=h1;omega⟩
structure PrV(I:jK)(S:jF)(u:World)(m:Nat)(q:Nat->Int)(n:Nat)(l:Int)(r2 r3:IL)(S':jF)(w':World):Prop where
 lx:Lx I S u S' w'
 ll:S'.l=S.l++[(oG 28 0 0 jB jB,oC jB jB),(oG 34 0 0 jB r2,oC jB r2),(oG 4 l 0 jB r3,oC jB r3)]
 va:S'.vl=S.vl
 sc:S'.sc=S.sc
 g:Gd S' (n+3)
 l1:1<=l
 l2:l<=1000
 r2n:r2.n=m+1
 r2q:r2.q=D7 (S.l.length:Int) q
 r2c:m+1<=r2.c
 r3n:r3.n=1
 r3q:r3.q=fun _=>(S.l.length:Int)+1
 r3c:1<=r3.c
 r2b:∀b,r2.a=some b->u.heap.size<=b.block
 r3b:∀b,r3.a=some b->u.heap.size<=b.block
def PrP(I:jK)(S:jF)(u:World)(m:Nat)(q:Nat->Int)(n:Nat)(e:Ending)(w':World):Prop:=e=.returned (.int .i64 ((S.l.length:Int)+2))/\∃l r2 r3 S',PrV I S u m q n l r2 r3 S' w'
theorem za4(I:jK)(S:jF)(kb m kc:Nat)(q:Nat->Int)(n:Nat)(u:World)(h:LB I S u)(hg:Gd S n)(hn:n<=440)(hm1:1<=m)(hm:m<=5)(hc:jX I S u (some ⟨kb,0,none⟩) m q):Calls Tryz.prog 21 #[ptr I.B,.slice (some ⟨kb,0,none⟩) m kc] u fun e w'=>PrP I S u m q n e w':=by
 have HL:Hid (LB I S u/\Gd S n/\jX I S u (some ⟨kb,0,none⟩) m q/\1<=m):=⟨h,hg,hc,hm1⟩;go_in;go_wp2_with fail;refine(qw5 I S n _ HL.1 HL.2.1 (by omega)).mono ?_;rintro e w1 ⟨rfl,S1,ha,hg1⟩;have H1:Hid (Ad I S u (oG 28 0 0 jB jB) (oC jB jB) S1 w1/\Gd S1 (n+1)/\jX I S1 w1 (some ⟨kb,0,none⟩) m q):=⟨ha,hg1,ha.lx.row HL.2.2.1⟩;obtain⟨f,hf⟩:∃f:Int,(S.l.length:Int)=f:=⟨_,rfl⟩;rw[hf];have HF:Hid ((S.l.length:Int)=f):=hf;go_wp2_with fail
 go_loopw [6,16] (fun v i wr=>∃j g c:Nat,j<=m/\v=.slice (some ⟨g,0,none⟩) (j+1) c/\i=.int .i64 (j:Int)/\Hid (gZ w1 wr/\wr.ownsRow I.N 3 1 (.slice (some ⟨g,0,none⟩) (j+1) c) (j+1) (FN f q j)/\w1.heap.size<=g/\j+1<=c)) (fun _ i _=>m-(intOf i).toNat)
 case atStart=>exact⟨0,w1.heap.size,1,aF _,rfl,rfl,q01 _ _,qv5 H1.1.lx.s f,ah _,ah _⟩
 case round=>
  obtain⟨j,g,c,hj,rfl,rfl,HR⟩:=hrel;by_cases hjm:j<m
  ·obtain⟨i0,gU,gQ,hy1,hy2⟩:=bT QI;have hs:=H1.1.lx.s;obtain⟨Ti,Tf,e0,_,hkl,kc0⟩:=jd (iF.below H1.2.2.1 HR.1) hjm
   cases e0;obtain⟨v',w7,gq,gB,gY,_,hat⟩:=run_append_own_at (P:=Tryz.prog) (wr.alloc (.cells #[.int .i64 (q j)] 3)) I.N 45 45 3 i0 _ 1 8 Tryz.underlying45 gU gQ hy1 hy2 rfl (by decide) (.slice (some ⟨g,0,none⟩) (j+1) c) (j+1) (FN f q j) (q35 HR.2.1 (q01 _ _)) ⟨wr.heap.size,0,none⟩ 1 1 [.int .i64 (q j)] rfl (cell_one_new _ _ _) (by simp[Value.oneCell']) (by unfold maxLen;omega) (by omega) (by have:=hs.n;have:=HR.1.size;simp;omega);obtain⟨g',c',rfl⟩:∃g c,v'=.slice (some ⟨g,0,none⟩) (j+1 + 1) c:=by
    rcases gB.2 with⟨_,e⟩|⟨g,c,cur,e,_⟩
    ·omega
    ·exact⟨g,c,e⟩
   have hgl:w1.heap.size<=g':=by
    have h9:=HR.1.size;have h8:=HR.2.2.1;rcases hat with e|e
    ·have:=aQ e;replace this:g'=g:=this;omega
    ·have:=aQ e;simp at this;omega
   have HN:Hid (gZ w1 w7/\w7.ownsRow I.N 3 1 (.slice (some ⟨g',0,none⟩) (j+1 + 1) c') (j+1 + 1) (FN f q (j+1))/\w1.heap.size<=g'/\j+1 + 1<=c'):=⟨(HR.1.alloc HR.1.size _).grown gY (by have:=HR.1.size;simp;omega) (fun k e=>by have:=aQ e;replace this:g=k:=this;have:=HR.2.2.1;omega),by rw[yj1];exact gB,hgl,by
    rcases gB.2 with⟨_,e⟩|⟨g,c,cur,e,_,_,hc,_⟩
    ·omega
    ·cases e;exact hc⟩
   simp only[Nat.zero_add] at kc0;go_wp2_with (at_builtin;refine um (by rfl) _ _ _ _ (by rfl) (.slice (some ⟨g,0,none⟩) (j+1) c) (.slice (some ⟨wr.heap.size,0,none⟩) 1 1) _ _ (by rfl) (by rfl) gq ?_);go_roundw
   case rel=>exact⟨j+1,g',c',by omega,rfl,by go_num,HN⟩
   case measure=>simp[intOf];omega
  ·obtain rfl:j=m:=by omega
   have H2:Hid (Lx I S1 w1 S1 wr):=Lx.below H1.1.lx.s HR.1;go_wp2_with fail;refine(qq6 I S1 ⟨some ⟨g,0,none⟩,j+1,c,D7 f q⟩ (n+1) _ H2.s H1.2.1 (by omega) (j67 H1.1.lx.s HR.2.1 HR.2.2.1) HR.2.2.2).mono ?_;rintro e w3 ⟨rfl,S2,ha2,hg2⟩;have H3:Hid (Ad I S1 wr (oG 34 0 0 jB ⟨some ⟨g,0,none⟩,j+1,c,D7 f q⟩) (oC jB ⟨some ⟨g,0,none⟩,j+1,c,D7 f q⟩) S2 w3/\Gd S2 (n+1 + 1)):=⟨ha2,hg2⟩;go_wp2_with fail;have hst:=WA I S2 4 jB ⟨some ⟨w3.heap.size,0,none⟩,1,1,fun _=>(S1.l.length:Int)⟩ (n+1 + 1) (w3.alloc (.cells #[.int .i64 (S1.l.length:Int)] 3)) (H3.1.lx.s.alloc _) H3.2 (by omega) (mD _ _ _) (Gg H3.1.lx.s _ _) (ah _);refine hst.mono ?_;rintro e w4 ⟨rfl,l,S3,hl1,hl2,ha3,hg3⟩;have H4:Hid (Ad I S2 (w3.alloc (.cells #[.int .i64 (S1.l.length:Int)] 3)) (oG 4 l 0 jB ⟨some ⟨w3.heap.size,0,none⟩,1,1,fun _=>(S1.l.length:Int)⟩) (oC jB ⟨some ⟨w3.heap.size,0,none⟩,1,1,fun _=>(S1.l.length:Int)⟩) S3 w4/\Gd S3 (n+1 + 1+1)):=⟨ha3,hg3⟩;go_wp2_with fail;go_ret;have e1:=H1.1.l;have e2:=H3.1.l;have e3:=H4.1.l;have n1:(S1.l.length:Int)=(S.l.length:Int)+1:=by rw[e1];simp
   have n2:(S2.l.length:Int)=(S.l.length:Int)+2:=by rw[e2,e1];simp
   refine⟨by rw[<-n2];rfl,l,⟨some ⟨g,0,none⟩,j+1,c,D7 f q⟩,⟨some ⟨w3.heap.size,0,none⟩,1,1,fun _=>(S1.l.length:Int)⟩,S3,⟨((H1.1.lx.trans H2.out).trans H3.1.lx).trans ((Lx.below H3.1.lx.s (q01 _ _)).trans H4.1.lx),?_,?_,?_,H4.2,hl1,hl2,rfl,?_,HR.2.2.2,rfl,by rw[n1],ah _,(fun b e=>by cases e;have h1:=H1.1.lx.g.size;have h2:=HR.2.2.1;show u.heap.size<=g;omega),(fun b e=>by cases e;have h1:=H1.1.lx.g.size;have h2:=HR.1.size;have h3:=H3.1.lx.g.size;show u.heap.size<=w3.heap.size;omega)⟩⟩
   ·rw[e3,e2,e1];simp
   ·rw[H4.1.va.2.2,H3.1.va.2.2,H1.1.va.2.2]
   ·rw[H4.1.sc,H3.1.sc,H1.1.sc]
   ·rw[HF.out]
abbrev JC:Array Value:=#[.string ⟨#[109,97,105,110]⟩,.int .i64 0,.int .i64 0,.bool true,.slice none 0 0,.slice none 0 0,.slice none 0 0]
abbrev LQ:Array Value:=#[.int .i64 0,.slice none 0 0,.int .i64 0,.int .i64 0,.int .i64 0]
theorem yz8:(Tryz.prog.info? 95).map (fun i=>(i.zero,i.size,i.bytes))=some (some (.agg #[.string ⟨#[]⟩,.int .i64 0,.int .i64 0,.bool false,.slice none 0 0,.slice none 0 0,.slice none 0 0]),7,112):=by kernel_rfl
theorem yz9:(Tryz.prog.info? 97).map (fun i=>(i.zero,i.size,i.bytes))=some (some (.agg #[.int .i64 0,.slice none 0 0,.int .i64 0,.int .i64 0,.int .i64 0]),5,56):=by kernel_rfl
def Gv:jF:=⟨100000,0,0,none,0,[],[],none,0,.slice none 0 0⟩
theorem append_nil{w0:World}(A:Array Value){t e:TypeId}{z:Value}{K b:Nat}(ht:Tryz.prog.underlying t=some (.slice e))(hi:(Tryz.prog.info? e).map (fun i=>(i.zero,i.size,i.bytes))=some (some z,K,b))(hz:z.cells.size=K)(hK:0<K)(hb:b<=1000)(hA:A.size=K)(h1:∀y∈A.toList,y.oneCell'=true)(hn:∀(j:Nat) (v:Value),A.toList[j]?=some v->(w0.alloc (.cells A e)).cell? ((⟨w0.heap.size,0,none⟩:Addr).add j)=some v):∃g cap cur w',(Builtin.append_ #[t,t] t #[.slice none 0 0,.slice (some ⟨w0.heap.size,0,none⟩) 1 1]).run Tryz.prog (w0.alloc (.cells A e))=.ok (.slice (some ⟨g,0,none⟩) 1 cap) w'/\OwnB w' g cur/\(∀(j:Nat) (v:Value),A[j]?=some v->cur[j]?=some v)/\w0.heap.size<g/\gZ w0 w'/\1<=cap/\w'.ownsRow 0 e K (.slice (some ⟨g,0,none⟩) 1 cap) 1 A.toList:=by
 obtain⟨i0,gU,gQ,hy1,hy2⟩:=bT hi;obtain⟨v',w7,gq,gB,gY,_,hat⟩:=run_append_own_at (P:=Tryz.prog) (w0.alloc (.cells A e)) 0 t t e i0 z K b ht gU gQ hy1 hy2 hz hK (.slice none 0 0) 0 [] (aX _ _ _ _) ⟨w0.heap.size,0,none⟩ 1 1 A.toList (by simp[hA]) hn h1 (by unfold maxLen;omega) (by omega) (aF _);rcases gB.2 with⟨_,d⟩|⟨g,cap,cur,e1,hb,hg,h2,h3,h4,h5⟩
 ·omega
 ·subst e1;refine⟨g,cap,cur,w7,gq,⟨⟨(aA.1 hg).1,fun o=>by simp[World.cell?,hg]⟩,fun o=>by simp[World.frozen?,hg]⟩,fun j v hj=>?_,?_,(q01 w0 _).grown gY (by simp) (fun k e=>by cases e),by omega,by simpa using gB⟩
  ·simp at h5;have hjl:j<K:=by rw[<-hA];exact(aA.1 hj).1
   rw[<-dO,<-List.getElem?_take_of_lt (j:=K) hjl,h5,dO];exact hj
  ·rcases hat with e|e
   ·cases e
   ·have:=aQ e;simp at this;omega
def TW(w:World)(I:jK)(w':World):Prop:=LB I Gv w'/\gZ w w'/\(∀k,(k=I.B\/k=I.C\/k=I.F\/k=I.K)->w.heap.size<=k)/\I.N=w'.heap.size/\I.nf=1/\I.f=0/\I.nk=1/\(∀(j:Nat) (v:Value),JC[j]?=some v->I.A0[j]?=some v)/\(∀(j:Nat) (v:Value),LQ[j]?=some v->I.K0[j]?=some v)/\1<=I.kc/\1<=I.fc/\w'.ownsRow 0 95 7 (.slice (some ⟨I.F,0,none⟩) 1 I.fc) 1 JC.toList/\w'.ownsRow 0 97 5 (.slice (some ⟨I.K,0,none⟩) 1 I.kc) 1 LQ.toList
theorem zg6(w:World):Calls Tryz.prog 11 #[] w fun e w'=>∃I:jK,e=.returned (ptr I.B)/\TW w I w':=by
 go_in
 go_upto_region 2 with fail
 obtain⟨w1,fQ⟩:∃w1,(w.alloc (.cells #[.slice none 0 0,.int .i64 0,.int .u64 0] 88)).alloc (.cells #[ptr w.heap.size,.slice none 0 0,.slice none 0 0,.int .i64 100000] 91)=w1:=⟨_,rfl⟩;have H1:Hid (gZ w w1/\OwnB w1 w.heap.size #[.slice none 0 0,.int .i64 0,.int .u64 0]/\OwnB w1 (w.heap.size+1) #[ptr w.heap.size,.slice none 0 0,.slice none 0 0,.int .i64 100000]):=by
  rw[<-fQ];exact⟨kF _ _ _,(OwnB.new _ _ _).alloc _,zM _ _ _ _⟩
 rw[fQ];obtain⟨C,hC⟩:∃C,w.heap.size=C:=⟨_,rfl⟩;obtain⟨B,hB⟩:∃B,w.heap.size+1=B:=⟨_,rfl⟩;have HC:Hid (w.heap.size=C/\w.heap.size+1=B):=⟨hC,hB⟩;have fB:Hid (gZ w w1):=H1.1;rw[hB,hC] at H1;rw[hB];obtain⟨ta,hta⟩:∃ta:Option Addr,Hid (ta=none):=⟨_,rfl⟩;obtain⟨tn,htn⟩:∃tn:Nat,Hid (tn=0):=⟨_,rfl⟩;obtain⟨tc,htc⟩:∃tc:Nat,Hid (tc=0):=⟨_,rfl⟩;have oQ:Hid (Value.slice none 0 0=.slice ta tn tc):=by rw[hta.out,htn.out,htc.out];exact rfl
 obtain⟨F,fc,Cc,w2,gq,hF,hFc,hFg,eG,hfc,hFo⟩:=append_nil (w0:=w1) JC Tryz.underlying29 yz8 rfl (by decide) (by decide) rfl (by simp[Value.oneCell']) (Az w1 JC _);have b1:w1.cell? ⟨B,1,none⟩=some (.slice none 0 0):=H1.2.2.1.cell 1 rfl;have b1':w2.cell? ⟨B,1,none⟩=some (.slice none 0 0):=(H1.2.2.call eG).1.cell 1 rfl;have bz':=(H1.2.2.call eG).2;have hBl:=H1.2.2.1.1;have Y4:=(H1.2.2.call eG).1.1;have H2:Hid (OwnB w2 F Cc/\(∀(j:Nat) (v:Value),JC[j]?=some v->Cc[j]?=some v)/\w1.heap.size<F/\gZ w1 w2/\w2.ownsRow 0 95 7 (.slice (some ⟨F,0,none⟩) 1 fc) 1 JC.toList):=⟨hF,hFc,hFg,eG,hFo⟩;rw[oQ.out] at gq b1 b1'
 go_upto_region 3 with(at_builtin;refine um (by rfl) _ _ _ _ (by rfl) (.slice ta tn tc) (.slice (some ⟨w1.heap.size,0,none⟩) 1 1) _ _ (by rfl) (by rfl) gq ?_)
 obtain⟨w3,fV⟩:∃w3,w2.setCell ⟨B,1,none⟩ (.slice (some ⟨F,0,none⟩) 1 fc)=w3:=⟨_,rfl⟩;have H3:Hid (OwnB w3 F Cc/\OwnB w3 B #[ptr C,.slice (some ⟨F,0,none⟩) 1 fc,.slice none 0 0,.int .i64 100000]/\OwnB w3 C #[.slice none 0 0,.int .i64 0,.int .u64 0]/\gZ w w3/\B<F/\w3.ownsRow 0 95 7 (.slice (some ⟨F,0,none⟩) 1 fc) 1 JC.toList):=by
  have h1:=H1.2.2.1.1;have h2:=H2.2.2.1;have hc:=HC.out;rw[<-fV];exact⟨wO H2.1 (by omega),(H1.2.2.call H2.2.2.2.1).set (o:=1) (by show 1<4;omega) _,wO (H1.2.1.call H2.2.2.2.1) (by omega),kD (iq fB.out H2.2.2.2.1) _ (by omega),by omega,q23 H2.2.2.2.2 _ (fun k e=>by have:=aQ e;replace this:F=k:=this;show k≠B;omega)⟩
 rw[fV];obtain⟨K,kc,EO,w4,gq,hK,hKc,hKg,eU,hkc,hKo⟩:=append_nil (w0:=w3) LQ Tryz.underlying89 yz9 rfl (by decide) (by decide) rfl (by simp[Value.oneCell']) (Az w3 LQ _);have b2:w3.cell? ⟨B,2,none⟩=some (.slice none 0 0):=H3.2.1.1.cell 2 rfl;have b2':w4.cell? ⟨B,2,none⟩=some (.slice none 0 0):=(H3.2.1.call eU).1.cell 2 rfl;have bz':=(H3.2.1.call eU).2;have hBl:=H3.2.1.1.1;have Y4:=(H3.2.1.call eU).1.1;have H4:Hid (OwnB w4 K EO/\(∀(j:Nat) (v:Value),LQ[j]?=some v->EO[j]?=some v)/\w3.heap.size<K/\gZ w3 w4/\w4.ownsRow 0 97 5 (.slice (some ⟨K,0,none⟩) 1 kc) 1 LQ.toList):=⟨hK,hKc,hKg,eU,hKo⟩;rw[oQ.out] at gq b2 b2';go_wp2_with (at_builtin;refine um (by rfl) _ _ _ _ (by rfl) (.slice ta tn tc) (.slice (some ⟨w3.heap.size,0,none⟩) 1 1) _ _ (by rfl) (by rfl) gq ?_);go_ret;obtain⟨q1,q2,q3,q4,q5,q6⟩:=H3.out;obtain⟨p1,p2,p3,p4,p5⟩:=H4.out;have hc:=HC.out;have r1:=q1.1.1;have r2:=q2.1.1;have r3:=q3.1.1;have r4:=p4.size;have r5:=p1.1.1;have r6:=q4.size;refine⟨⟨w4.heap.size,B,C,F,K,fc,kc,1,0,1,Cc,EO⟩,rfl,⟨⟨by show B<w4.heap.size;omega,by show C<w4.heap.size;omega,by show F<w4.heap.size;omega,r5,by show B≠C;omega,by show B≠F;omega,by show B≠K;omega,by show C≠F;omega,by show C≠K;omega,by show F≠K;omega,by show 0<1;omega,by show 1<=1;omega,by show 1<=2/\1<=2;omega⟩,(q2.call p4).set (o:=2) (by show 2<4;omega) _,?_,?_,?_,aX _ _ _ _,aX _ _ _ _,fun p hp=>absurd hp (by simp[Gv]),by simp⟩,kD (iq q4 p4) _ (by omega),fun k e=>by
  rcases e with e|e|e|e
  ·replace e:k=B:=e;omega
  ·replace e:k=C:=e;omega
  ·replace e:k=F:=e;omega
  ·replace e:k=K:=e;omega,by simp,rfl,rfl,rfl,H2.2.1,p2,hkc,hfc,?_,?_⟩
 ·have hC:OwnB (w4.setCell ⟨B,2,none⟩ (.slice (some ⟨K,0,none⟩) 1 kc)) C #[.slice none 0 0,.int .i64 0,.int .u64 0]:=wO (q3.call p4) (by omega);exact⟨0,0,ah _,hC.1.1,⟨hC.1.cell 0 rfl,hC.1.cell 1 rfl,hC.1.cell 2 rfl⟩,hC.2,fun i hi=>absurd hi (aT _)⟩
 ·have hF:=H2.2.1;exact⟨Cc,wO (q1.call p4) (by show F≠B;omega),hF 4 _ rfl,hF 6 _ rfl,fun _ _ _=>rfl⟩
 ·exact⟨EO,wO p1 (by show K≠B;omega),p2 0 _ rfl,p2 1 _ rfl,p2 4 _ rfl,fun o ho=>absurd ho (aT _)⟩
 ·exact q23 (q35 q6 p4) _ (fun k e=>by have:=aQ e;replace this:F=k:=this;show k≠B;omega)
 ·exact q23 p5 _ (fun k e=>by have:=aQ e;replace this:K=k:=this;show k≠B;omega)
abbrev nd0:ND×NA:=(oG 0 0 0 jB jB,oC jB jB)
theorem ya6:∀(l:List (ND×NA)) (i j:Nat),i<l.length->j<8->(Dn l)[i*8+j]?=(kQ (l.getD i nd0).1 (l.getD i nd0).2)[j]?
 |[],i,j,h,_=>absurd h (by simp)
 |x :: l,0,j,_,hj=>by
  show(n8 x++Dn l)[0*8+j]?=_;rw[bZ (by simp[n8];omega)];rcases(show j=0\/j=1\/j=2\/j=3\/j=4\/j=5\/j=6\/j=7 by omega) with rfl|rfl|rfl|rfl|rfl|rfl|rfl|rfl<;>rfl
 |x :: l,i+1,j,h,hj=>by
  have ih:=ya6 l i j (by simpa using h) hj;show(n8 x++Dn l)[(i+1)*8+j]?=_;rw[dA (by simp[n8];omega),show(i+1)*8+j-(n8 x).length=i*8+j by simp[n8];omega,ih];rfl
structure LZ(I:jK)(S:jF)(g:Nat)(l:List (ND×NA))(u:World):Prop where
 f:wu I u (.slice S.va S.vl.length S.vc) (.slice (some ⟨g,0,none⟩) l.length S.nc)
 r:iF 8 0 u (some ⟨g,0,none⟩) l.length (fun i=>kQ (l.getD i nd0).1 (l.getD i nd0).2)
 v:u.ownsRow I.N 9 1 (.slice S.va S.vl.length S.vc) S.vl.length S.vl
 x:∀p,p∈l->qO 0 u p.2.ra p.1.rn p.1.r/\qO 0 u p.2.ka p.1.kn p.1.c/\p.1.kn<=p.2.kc
 cap:l.length<=S.nc
theorem LB.lz{I:jK}{S:jF}{u:World}(h:LB I S u){l0:List (ND×NA)}{d:ND}{x:NA}(hl:S.l=l0++[(d,x)]):∃g,S.na=some ⟨g,0,none⟩/\I.N<=g/\g<u.heap.size/\u.cell? ⟨g,l0.length*8+1,none⟩=some (.int .i64 d.l)/\(∀o,u.frozen? ⟨g,o,none⟩=false)/\∀(v:Value),LZ I S g (l0++[({d with l:=1},x)]) ((u.setCell ⟨g,l0.length*8+1,none⟩ (.int .i64 1)).setCell ⟨I.B,2,none⟩ v):=by
 have hn:0<S.l.length:=by rw[hl];simp
 rcases h.r.2 with⟨_,e⟩|⟨g,c,cur,e,h1,h2,h3,h4,h5,h6⟩
 ·omega
 ·have e1:S.na=some ⟨g,0,none⟩:=by injection e
  have e2:S.nc=c:=by injection e
  have hgl:=(aA.1 h2).1;have gI:∀i j,i<S.l.length->j<8->u.cell? ⟨g,i*8+j,none⟩=(kQ (S.l.getD i nd0).1 (S.l.getD i nd0).2)[j]?:=fun i j hi hj=>by
   have hx:=ya6 S.l i j hi hj;have hs:j<(kQ (S.l.getD i nd0).1 (S.l.getD i nd0).2).size:=hj;rw[cO hs] at hx ⊢;have:=h.r.cells (g:=g) (by rw[e1];rfl) (i*8+j) _ hx;generalize i*8+j=k at *
   cases k<;>simpa[Addr.add] using this
  have hi:=h.i;have hF:=hi.f;have hB:=hi.b;have hg0:Gx (fun k=>k=g\/k=I.B) u u:=Gx.refl _ _;refine⟨g,e1,h1,hgl,?_,fun o=>by simp[World.frozen?,h2],fun v=>?_⟩
  ·have:=gI l0.length 1 (by rw[hl];simp) (by omega);rw[hl] at this;simpa using this
  ·have g1:Gx (fun k=>k=g\/k=I.B) u ((u.setCell ⟨g,l0.length*8+1,none⟩ (.int .i64 1)).setCell ⟨I.B,2,none⟩ v):=((Gx.set u g (l0.length*8+1) (.int .i64 1)).mono (fun k e=>.inl e)).trans (Gx.set _ I.B 2 v) (fun _ _ e=>.inr e);have hll:(l0++[({d with l:=1},x)]).length=S.l.length:=by rw[hl];simp
   refine⟨?_,fun h0=>⟨g,0,rfl,aF _,by simpa using hgl,fun i hi' j hj=>?_⟩,?_,fun p hp=>?_,by rw[hll,e2];exact h3⟩
   ·rw[hll];have hf:=h.f;rw[e1] at hf;exact(hf.other (by omega)).other hi.bf.symm
   ·rw[hll] at hi';have hne:I.B≠g:=by omega
    rw[show 0+i*8+j=i*8+j by omega];have e3:((u.setCell ⟨g,l0.length*8+1,none⟩ (.int .i64 1)).setCell ⟨I.B,2,none⟩ v).cell? ⟨g,i*8+j,none⟩=(u.setCell ⟨g,l0.length*8+1,none⟩ (.int .i64 1)).cell? ⟨g,i*8+j,none⟩:=World.cell?_setCell_far _ ⟨I.B,2,none⟩ ⟨g,i*8+j,none⟩ _ hne;rw[e3];have hO:OwnB u g cur:=⟨⟨hgl,fun o=>by simp[World.cell?,h2]⟩,fun o=>by simp[World.frozen?,h2]⟩;have gK:l0.length*8+1<cur.size:=by
     rw[h5];have:l0.length+1<=c:=by rw[hl] at h3;simpa using h3
     omega
    have hS:=(hO.set (o:=l0.length*8+1) gK (.int .i64 1)).1.2 (i*8+j);have hU:=hO.1.2 (i*8+j);rw[hS];by_cases c1:i=l0.length
    ·subst c1;by_cases c2:j=1
     ·subst c2;rw[bY gK];simp
     ·rw[aW (by omega),<-hU,gI _ _ hi' hj,hl];simp;rcases(show j=0\/j=2\/j=3\/j=4\/j=5\/j=6\/j=7 by omega) with rfl|rfl|rfl|rfl|rfl|rfl|rfl<;>rfl
    ·have hi2:i<l0.length:=by rw[hl] at hi';simp at hi';omega
     rw[aW (by omega),<-hU,gI _ _ hi' hj,hl];simp[bZ hi2]
   ·refine nY h.v fun k e=>g1.block k (jm h.v ((jg _ _ _).symm.trans e)).2 (fun c=>?_);have e':=(jg _ _ _).symm.trans e;rcases c with c|c
    ·exact qP h.v h.r (by decide) e' (by rw[e1,c];rfl)
    ·have:=(jm h.v e').1;omega
   ·have hq:∀{a:Option Addr} {n:Nat} {q:Nat->Int},jX I S u a n q->qO 0 ((u.setCell ⟨g,l0.length*8+1,none⟩ (.int .i64 1)).setCell ⟨I.B,2,none⟩ v) a n q:=fun r=>(r.gx (S':=S) g1 (fun k e=>by
     rcases e with e|e
     ·exact .inr (.inl (by rw[e1,e];rfl))
     ·exact .inl (e ▸ hi.b)) (fun _ _=>⟨fun e=>e,fun e=>e⟩)).1
    rcases dD.1 hp with hp|hp
    ·obtain⟨x1,x2,x3⟩:=h.x p (by rw[hl];exact dD.2 (.inl hp));exact⟨hq x1,hq x2,x3⟩
    ·obtain rfl:p=({d with l:=1},x):=by simpa using hp
     obtain⟨x1,x2,x3⟩:=h.x (d,x) (by rw[hl];simp);exact⟨hq x1,hq x2,x3⟩
theorem j13{u u':World}{T:Nat->Prop}{C A:Nat}(h:CU C none 0 0 A u)(g:Gx T u u')(hC:¬T C):CU C none 0 0 A u':=by
 obtain⟨t,s,h1,h2⟩:=h;have hk:u'.heap[C]?=u.heap[C]?:=g.block C h2.lt hC;exact⟨t,s,h1,aH h2.lt g.size,⟨(ak (a:=⟨C,0,none⟩) hk).trans h2.c.1,(ak (a:=⟨C,1,none⟩) hk).trans h2.c.2.1,(ak (a:=⟨C,2,none⟩) hk).trans h2.c.2.2⟩,fun o=>(bD (a:=⟨C,o,none⟩) hk).trans (h2.fr o),fun i hi=>absurd hi (aT _)⟩
structure LV(I:jK)(S:jF)(u:World)(c:IL)(S':jF)(g:Nat)(w':World):Prop where
 z:LZ I S' g (S.l++[(oG 1 1 0 jB c,oC jB c)]) w'
 b:OwnB w' I.B #[ptr I.C,.slice (some ⟨I.F,0,none⟩) I.nf I.fc,.slice (some ⟨I.K,0,none⟩) (I.nk-1) I.kc,.int .i64 S'.lf]
 cu:CU I.C none 0 0 S'.A w'
 kx:xg I w' S'.ln S'.sc
 gd:S'.A<=1000/\1500<=S'.lf/\S'.lf<=100000
 vl:S'.vl=S.vl
 m:∀k,k<u.heap.size->(g=k->ig S.na=some k)/\(ig S'.va=some k->ig S.va=some k)
 gg:I.N<=g
 g:Gx (fun k=>(k=I.B\/k=I.C\/k=I.F\/k=I.K)\/ig S.na=some k\/ig S.va=some k) u w'
theorem LZ.call{I:jK}{S:jF}{g:Nat}{l:List (ND×NA)}{u u':World}(h:LZ I S g l u)(hb:gZ u u'):LZ I S g l u':=⟨by
 obtain⟨A,h1,h2⟩:=h.f;exact⟨A,h1.call hb,h2⟩,h.r.below hb,q35 h.v hb,fun p hp=>⟨iF.below (h.x p hp).1 hb,iF.below (h.x p hp).2.1 hb,(h.x p hp).2.2⟩,h.cap⟩
theorem Zm{u:World}{a:Option Addr}{n:Nat}{q:Nat->Int}{B:Nat}{v:Value}(h:qO 0 u a n q)(hB:OwnB u B #[.slice none 0 0]):qO 0 (u.setCell ⟨B,0,none⟩ v) a n q:=fun h0=>by
 obtain⟨b,off,e,h1,h2,h3⟩:=h h0;have hne:B≠b:=fun c=>by
  subst c;have h4:=h3 0 h0 0 (by omega);rw[hB.1.2 (off+0*1+0)] at h4;rcases(show off=0\/0<off by omega) with rfl|ho
  ·simp at h4
  ·rw[dJ (by show 1<=off+0*1+0;omega)] at h4;simp at h4
 exact⟨b,off,e,h1,by simpa using h2,fun i hi j hj=>(World.cell?_setCell_far u ⟨B,0,none⟩ ⟨b,off+i*1+j,none⟩ v hne).trans (h3 i hi j hj)⟩
theorem LZ.set{I:jK}{S:jF}{g B:Nat}{l:List (ND×NA)}{u:World}{v:Value}(h:LZ I S g l u)(hB:OwnB u B #[.slice none 0 0])(h1:I.F≠B)(h2:g≠B)(h3:ig S.va≠some B):LZ I S g l (u.setCell ⟨B,0,none⟩ v):=⟨h.f.other h1,fun h0=>by
 obtain⟨b,off,e,q1,q2,q3⟩:=h.r h0
 cases e;exact⟨g,0,rfl,q1,by simpa using q2,fun i hi j hj=>(World.cell?_setCell_far u ⟨B,0,none⟩ ⟨g,0+i*8+j,none⟩ v (fun c=>h2 c.symm)).trans (q3 i hi j hj)⟩,q23 h.v _ fun k e c=>h3 (by rw[<-c];exact(jg _ _ _).symm.trans e),fun p hp=>⟨Zm (h.x p hp).1 hB,Zm (h.x p hp).2.1 hB,(h.x p hp).2.2⟩,h.cap⟩
theorem LV.call{I:jK}{S:jF}{u:World}{c:IL}{S':jF}{g:Nat}{w' w'':World}(h:LV I S u c S' g w')(hb:gZ w' w''):LV I S u c S' g w'':=⟨h.z.call hb,h.b.call hb,h.cu.call hb,(by obtain⟨A,h1,h2⟩:=h.kx;exact⟨A,h1.call hb,h2⟩),h.gd,h.vl,h.m,h.gg,h.g.trans (Gx.below (fun _=>False) hb) (fun _ _ e=>e.elim)⟩
theorem zg4(I:jK)(S:jF)(c:IL)(n:Nat)(u:World)(h:LB I S u)(hg:Gd S n)(hn:n<=440)(hc:jX I S u c.a c.n c.q)(hcc:c.n<=c.c)(hkc:I.nk<=I.kc):Calls Tryz.prog 35 #[ptr I.B,Dt c] u fun e w'=>e=.returned (.tuple #[])/\∃S' g,LV I S u c S' g w'/\Gd S' (n+1):=by
 have HL:Hid (LB I S u/\Gd S n/\jX I S u c.a c.n c.q):=⟨h,hg,hc⟩;go_in;go_wp2_with fail;have hst:=WA I S 1 jB c n u HL.1 HL.2.1 (by omega) (mD _ _ _) HL.2.2 hcc;refine hst.mono ?_;rintro e w1 ⟨rfl,l,S1,hl1,hl2,ha,hg1⟩;have H1:Hid (Ad I S u (oG 1 l 0 jB c) (oC jB c) S1 w1):=ha;have HG:Hid (Gd S1 (n+1)):=hg1;go_wp2_with fail;refine(VY I S1 _ H1.lx.s).mono ?_;rintro e w2 ⟨rfl,eG⟩;have H2:Hid (Lx I S u S1 w2):=H1.lx.trans (Lx.below H1.lx.s eG);obtain⟨g,e1,hgN,hgl,hgc,hgz,hz⟩:=H2.s.lz H1.l;have HZ:Hid (∀v,LZ I S1 g (S.l++[({oG 1 l 0 jB c with l:=1},oC jB c)]) ((w2.setCell ⟨g,S.l.length*8+1,none⟩ (.int .i64 1)).setCell ⟨I.B,2,none⟩ v)):=hz;have gG:S1.l.length=S.l.length+1:=by rw[H1.l];simp
 have f6:=H2.s.f.cell.2.1;rw[e1,gG] at f6;have hI1:(0:Int)<=(S.l.length:Int):=by omega
 have hI2:(S.l.length:Int)<((S.l.length+1:Nat):Int):=by omega
 have b2:=H2.s.b.1.cell 2 rfl;have bz:=H2.s.b.2;have hbl:=H2.s.b.1.1;have hne:I.B≠g:=by have:=H2.s.i.b;omega
 have HE:Hid (S1.na=some ⟨g,0,none⟩):=e1
 go_upto_region 2 with fail
 obtain⟨w3,fV⟩:∃w3,w2.setCell ⟨g,S.l.length*8+1,none⟩ (.int .i64 1)=w3:=⟨_,rfl⟩;have H3:Hid (OwnB w3 I.B #[ptr I.C,.slice (some ⟨I.F,0,none⟩) I.nf I.fc,.slice (some ⟨I.K,0,none⟩) I.nk I.kc,.int .i64 S1.lf]/\Gx (fun k=>k=g) w2 w3/\xg I w3 S1.ln S1.sc):=by
  rw[<-fV];exact⟨wO H2.s.b hne,Gx.set _ _ _ _,H2.s.k.other (by have:=H2.s.i.k;omega)⟩
 rw[fV] at HZ;rw[fV];have b2:w3.cell? ⟨I.B,2,none⟩=some (.slice (some ⟨I.K,0,none⟩) I.nk I.kc):=H3.1.1.cell 2 rfl;have bz:=H3.1.2;have hbl:=H3.1.1.1;have hkk:=H2.s.i.hk;have hkm:=H2.s.i.m.2;have hk0:I.kc≠0:=by omega
 have hk1:(0:Int)<=(I.kc:Int):=by omega
 have hk2:IntKind.i64.wrap ((1:Int)-1)=0:=by decide
 have hk3:IntKind.i64.wrap 0=0:=by decide
 have HF:Hid (LV I S u c S1 g (w3.setCell ⟨I.B,2,none⟩ (.slice (some ⟨I.K,0,none⟩) (I.nk-1) I.kc))):=by
  have hE:=HE.out;have hx:=H2.out;refine⟨HZ.out _,H3.1.set (o:=2) (by show 2<4;omega) _,j13 (j13 H2.s.c H3.2.1 (fun e=>by have h1:=H2.s.i.c;omega)) (Gx.set w3 I.B 2 _) (fun e=>H2.s.i.bc e.symm),H3.2.2.other H2.s.i.bk.symm,by have g1:=HG.out.A;have g2:=HG.f1;have g3:=HG.f2;omega,H1.va.2.2,fun k hk=>⟨fun e=>(hx.m k hk).1 (by rw[hE,e];rfl),(hx.m k hk).2⟩,hgN,?_⟩;refine((hx.g.mono (S':=fun k=>(k=I.B\/k=I.C\/k=I.F\/k=I.K)\/ig S.na=some k\/ig S.va=some k) (fun k e=>?_)).trans H3.2.1 (fun k hk e=>?_)).trans (Gx.set w3 I.B 2 _) (fun k _ e=>.inl (.inl e))
  ·rcases e with e|e
   ·exact .inl e.2
   ·exact .inr e
  ·exact .inr (.inl ((hx.m k hk).1 (by rw[hE,e];rfl)))
 obtain⟨m,hm⟩:∃m,I.nk=m:=⟨_,rfl⟩;rw[hm] at b2 HF hkk hkm hkc;have hmk:(m:Int)<=(I.kc:Int):=by omega
 have hk4:(1:Int)<=(I.kc:Int):=by omega
 rcases(show m=1\/m=2 by omega) with rfl|rfl;all_goals
  have hk5:IntKind.i64.wrap ((2:Int)-1)=1:=by decide
  have hk6:IntKind.i64.wrap 1=1:=by decide
  go_region_with fail
  all_goals go_end0
  all_goals first
   |exact⟨rfl,S1,g,HF.out,HG.out⟩
   |exact⟨rfl,S1,g,HF.call (ny (q32 _)),HG.out⟩
theorem zg5(I:jK)(S:jF)(c:IL)(n:Nat)(u:World)(h:LB I S u)(hg:Gd S n)(hn:n<=440)(hc:jX I S u c.a c.n c.q)(hcc:c.n<=c.c)(hkc:I.nk<=I.kc):Calls Tryz.prog 24 #[ptr I.B,Dt c] u fun e w'=>e=.returned (.agg #[.slice (some ⟨I.F,0,none⟩) I.nf I.fc])/\∃S' g,LZ I S' g (S.l++[(oG 1 1 0 jB c,oC jB c)]) w'/\S'.vl=S.vl/\I.N<=g/\(∀k,ig S'.va=some k->I.N<=k)/\Gx (fun k=>(k=I.B\/k=I.C\/k=I.F\/k=I.K)\/ig S.na=some k\/ig S.va=some k) u w':=by
 have HS:Hid _:=zg4 I S c n (u.alloc (.cells #[.slice none 0 0] 31)) (h.alloc _) hg hn (hc.call (q01 _ _)) hcc hkc;have HL:Hid (LB I S u):=h;go_in;go_wp2_with fail;refine dV HS ?_;rintro e w2 ⟨rfl,S',g,hs,-⟩;have hO:OwnB w2 u.heap.size #[.slice none 0 0]:=hs.g.ownB (OwnB.new _ _ _) (fun e=>by
  have h1:=HL.n;have hi:=HL.i;have i1:=hi.b;have i2:=hi.c;have i3:=hi.f;have i4:=hi.k;rcases e with e|e|e
  ·omega
  ·exact dF _ (jm HL.r e).2
  ·exact dF _ (jm HL.v e).2)
 have r0:=hO.1.cell 0 rfl;have rz:=hO.2;have b1:w2.cell? ⟨I.B,1,none⟩=some (.slice (some ⟨I.F,0,none⟩) I.nf I.fc):=hs.b.1.cell 1 rfl;have H2:Hid (LV I S (u.alloc (.cells #[.slice none 0 0] 31)) c S' g w2):=hs;have H3:Hid (OwnB w2 u.heap.size #[.slice none 0 0]):=hO;go_wp2_with fail;have hs:=H2.out;have hL:=HL.out;have gK:u.heap.size<(u.alloc (.cells #[.slice none 0 0] 31)).heap.size:=by simp
 refine aG (v:=.agg #[.slice (some ⟨I.F,0,none⟩) I.nf I.fc]) (by simp[results,Tryz.results24,go_sem,r0]) rfl ⟨rfl,S',g,?_,hs.vl,hs.gg,fun k e=>(jm hs.z.v e).1,?_⟩
 ·exact hs.z.set H3.out (by have:=hL.i.f;have:=hL.n;omega) (fun e=>dF _ (jm hL.r ((hs.m _ gK).1 e)).2) (fun e=>dF _ (jm hL.v ((hs.m _ gK).2 e)).2)
 ·exact((Gx.below (fun k=>(k=I.B\/k=I.C\/k=I.F\/k=I.K)\/ig S.na=some k\/ig S.va=some k) (q01 u _)).trans hs.g (fun _ _ e=>e)).trans (Gx.set w2 u.heap.size 0 _) (fun k hk e=>by omega)
end
end Go.Proofs.YthnkncpegihbhaaGreatDoor
