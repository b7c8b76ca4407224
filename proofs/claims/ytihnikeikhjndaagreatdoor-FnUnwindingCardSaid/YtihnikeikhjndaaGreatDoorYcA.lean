import Derived.Test.YtihnikeikhjndaaGreatDoorYbA
import Derived.Test.YtihnikeikhjndaaGreatDoorDrwA
set_option maxRecDepth 100000
set_option maxHeartbeats 16000000
namespace Go.Proofs.YtihnikeikhjndaaGreatDoor
section
open Go.RowKit
structure bQ where
 N:Nat
 B:Nat
 C:Nat
 F:Nat
 K:Nat
 fc:Nat
 kc:Nat
 nf:Nat
 f:Nat
 nk:Nat
 A0:List Value
 K0:List Value
abbrev bQ.fo(I:bQ):Nat:=I.f*7
abbrev bQ.ko(I:bQ):Nat:=(I.nk-1)*5
structure bQ.ok(I:bQ):Prop where
 bc:I.B≠I.C
 bf:I.B≠I.F
 bk:I.B≠I.K
 cf:I.C≠I.F
 ck:I.C≠I.K
 fk:I.F≠I.K
 hf:I.f<I.nf
 hk:1<=I.nk
 m:I.nf<=50/\I.nk<=50
structure bl(I:bQ)(k:Nat):Prop where
 n:I.N<=k
 b:k≠I.B
 c:k≠I.C
 f:k≠I.F
 k:k≠I.K
def inb(I:bQ)(k:Nat):Prop:=k=I.B\/k=I.C\/k=I.F\/k=I.K
theorem bl.no{I:bQ}{k:Nat}(h:bl I k)(e:inb I k):False:=by
 rcases e with e|e|e|e
 ·exact h.b e
 ·exact h.c e
 ·exact h.f e
 ·exact h.k e
structure bJ where
 lf:Int
 ln:Int
 A:Nat
 va:Option Addr
 vc:Nat
 vl:List Value
 l:List (ND×NA)
 na:Option Addr
 nc:Nat
 sc:Value
def n8(p:ND×NA):List Value:=(dJ p.1 p.2).toList
def yI(l:List (ND×NA)):List Value:=l.flatMap n8
def dV(I:bQ)(S:bJ)(u:World)(a:Option Addr)(n:Nat)(q:Nat->Int):Prop:=jQ 0 u a n q/\∀b,a=some b->bl I b.block/\b.block<u.heap.size/\aj S.na≠some b.block/\aj S.va≠some b.block
theorem Lh{u:World}{t:TypeId}{K g n cap o:Nat}{L:List Value}(h:u.ownsRow 0 t K (.slice (some ⟨g,0,none⟩) n cap) n L)(v:Value):(u.setCell ⟨g,o,none⟩ v).ownsRow 0 t K (.slice (some ⟨g,0,none⟩) n cap) n (L.set o v):=by
 refine⟨by rw[List.length_set];exact h.1,?_⟩;rcases h.2 with⟨e,_⟩|⟨g',c',cur,e,h1,h2,h3,h4,h5,h6⟩
 ·cases e
 ·cases e;refine .inr ⟨g,cap,cur.setIfInBounds o v,rfl,h1,?_,h3,h4,by simpa using h5,?_⟩
  ·have hl:=(Array.getElem?_eq_some_iff.1 h2).1;show(u.setCell ⟨g,o,none⟩ v).heap[g]?=_;simp[World.setCell,Array.getElem?_modify,h2]
  ·rw[Array.toList_setIfInBounds,List.take_set,h6]
theorem Gz{u:World}{t:TypeId}{K g n cap:Nat}{L:List Value}(h:u.ownsRow 0 t K (.slice (some ⟨g,0,none⟩) n cap) n L):g<u.heap.size/\(∀o,u.frozen? ⟨g,o,none⟩=false)/\∀(o:Nat) (v:Value),L[o]?=some v->u.cell? ⟨g,o,none⟩=some v:=by
 refine⟨(q16 h rfl).2,fun o=>?_,fun o v e=>?_⟩
 ·rcases h.2 with⟨e,_⟩|⟨g',c',cur,e,h1,h2,_⟩
  ·cases e
  ·cases e;simp[World.frozen?,h2]
 ·have:=h.cells (g:=g) rfl o v e
  cases o<;>simpa[Addr.add] using this
def lK(I:bQ)(u:World)(va na:Value):Prop:=∃L,u.ownsRow 0 87 7 (.slice (some ⟨I.F,0,none⟩) I.nf I.fc) I.nf L/\L[I.fo+4]?=some va/\L[I.fo+6]?=some na/\∀o,o≠I.fo+4->o≠I.fo+6->L[o]?=I.A0[o]?
def qH(I:bQ)(u:World)(ln:Int)(sc:Value):Prop:=∃L,u.ownsRow 0 89 5 (.slice (some ⟨I.K,0,none⟩) I.nk I.kc) I.nk L/\L[I.ko]?=some (.int .i64 (I.f:Int))/\L[I.ko+1]?=some sc/\L[I.ko+3]?=some (.int .i64 ((I.nk:Int)-1))/\L[I.ko+4]?=some (.int .i64 ln)/\∀o,o<I.ko->L[o]?=I.K0[o]?
structure LB(I:bQ)(S:bJ)(u:World):Prop where
 i:I.ok
 b:OwnB u I.B #[ptr I.C,.slice (some ⟨I.F,0,none⟩) I.nf I.fc,.slice (some ⟨I.K,0,none⟩) I.nk I.kc,.int .i64 S.lf]
 c:CU I.C none 0 0 S.A u
 f:lK I u (.slice S.va S.vl.length S.vc) (.slice S.na S.l.length S.nc)
 k:qH I u S.ln S.sc
 r:u.ownsRow 0 98 8 (.slice S.na S.l.length S.nc) S.l.length (yI S.l)
 v:u.ownsRow 0 9 1 (.slice S.va S.vl.length S.vc) S.vl.length S.vl
 x:∀p,p∈S.l->dV I S u p.2.ra p.1.rn p.1.r/\dV I S u p.2.ka p.1.kn p.1.c/\p.1.kn<=p.2.kc
 rb:∀k,aj S.na=some k->bl I k
 vb:∀k,aj S.va=some k->bl I k
 n:I.N<=u.heap.size
section
variable {I:bQ}{S:bJ}{u u':World}
theorem dV.call{a:Option Addr}{n:Nat}{q:Nat->Int}(h:dV I S u a n q)(hb:ah u u'):dV I S u' a n q:=⟨aP.below h.1 hb,fun b e=>⟨(h.2 b e).1,Nat.lt_of_lt_of_le (h.2 b e).2.1 hb.size,(h.2 b e).2.2⟩⟩
theorem dV.gx{a:Option Addr}{n:Nat}{q:Nat->Int}{T:Nat->Prop}{S':bJ}(h:dV I S u a n q)(g:Gx T u u')(hT:∀k,T k->inb I k\/aj S.na=some k\/aj S.va=some k)(hs:∀k,k<u.heap.size->(aj S'.na=some k->aj S.na=some k)/\(aj S'.va=some k->aj S.va=some k)):dV I S' u' a n q:=by
 have hT':∀b,a=some b->¬T b.block:=fun b e t=>by
  obtain⟨h1,h2,h3,h4⟩:=h.2 b e;rcases hT _ t with c|c|c
  ·exact h1.no c
  ·exact h3 c
  ·exact h4 c
 refine⟨fun h0=>?_,fun b e=>⟨(h.2 b e).1,Nat.lt_of_lt_of_le (h.2 b e).2.1 g.size,fun c=>(h.2 b e).2.2.1 ((hs _ (h.2 b e).2.1).1 c),fun c=>(h.2 b e).2.2.2 ((hs _ (h.2 b e).2.1).2 c)⟩⟩;obtain⟨b,off,e,h1,h2,h3⟩:=h.1 h0;exact⟨b,off,e,h1,Nat.lt_of_lt_of_le h2 g.size,fun i hi j hj=>(World.cell?_of_block (a:=⟨b,off+i*1+j,none⟩) (g.block b h2 (hT' _ e))).trans (h3 i hi j hj)⟩
theorem lK.block{va na:Value}(h:lK I u va na)(hk:u'.heap[I.F]?=u.heap[I.F]?):lK I u' va na:=by
 obtain⟨A,h1,h2⟩:=h;exact⟨A,jS h1 fun k e=>by rw[<-Option.some.inj e];exact hk,h2⟩
theorem qH.block{ln:Int}{sc:Value}(h:qH I u ln sc)(hk:u'.heap[I.K]?=u.heap[I.K]?):qH I u' ln sc:=by
 obtain⟨A,h1,h2⟩:=h;exact⟨A,jS h1 fun k e=>by rw[<-Option.some.inj e];exact hk,h2⟩
theorem lK.cell{va na:Value}(h:lK I u va na):u.cell? ⟨I.F,I.fo+4,none⟩=some va/\u.cell? ⟨I.F,I.fo+6,none⟩=some na/\(∀o,u.frozen? ⟨I.F,o,none⟩=false)/\I.F<u.heap.size:=by
 obtain⟨A,h1,a4,a6,a0⟩:=h;have ho:=Gz h1;exact⟨ho.2.2 _ _ a4,ho.2.2 _ _ a6,ho.2.1,ho.1⟩
theorem qH.cell{ln:Int}{sc:Value}(h:qH I u ln sc):u.cell? ⟨I.K,I.ko,none⟩=some (.int .i64 (I.f:Int))/\u.cell? ⟨I.K,I.ko+4,none⟩=some (.int .i64 ln)/\(∀o,u.frozen? ⟨I.K,o,none⟩=false)/\I.K<u.heap.size/\u.cell? ⟨I.K,I.ko+1,none⟩=some sc/\u.cell? ⟨I.K,I.ko+3,none⟩=some (.int .i64 ((I.nk:Int)-1)):=by
 obtain⟨A,h1,a0,a1,a3,a4,_⟩:=h;have ho:=Gz h1;exact⟨ho.2.2 _ _ a0,ho.2.2 _ _ a4,ho.2.1,ho.1,ho.2.2 _ _ a1,ho.2.2 _ _ a3⟩
theorem LB.lt(h:LB I S u):I.B<u.heap.size/\I.C<u.heap.size/\I.F<u.heap.size/\I.K<u.heap.size:=⟨h.b.1.1,by obtain⟨t,s,_,h2⟩:=h.c;exact h2.lt,h.f.cell.2.2.2,h.k.cell.2.2.2.1⟩
theorem LB.Dz(h:LB I S u){k:Nat}(e:inb I k):k<u.heap.size:=by
 obtain⟨h1,h2,h3,h4⟩:=h.lt;rcases e with e|e|e|e<;>omega
theorem LB.fresh(h:LB I S u){k:Nat}(hk:u.heap.size<=k):bl I k:=by
 obtain⟨h1,h2,h3,h4⟩:=h.lt;have h5:=h.n;exact⟨by omega,by omega,by omega,by omega,by omega⟩
theorem LB.call(h:LB I S u)(hb:ah u u'):LB I S u':=by
 obtain⟨l1,l2,l3,l4⟩:=h.lt;exact⟨h.i,h.b.call hb,h.c.call hb,h.f.block (hb.block _ l3),h.k.block (hb.block _ l4),mZ h.r hb,mZ h.v hb,fun p hp=>⟨(h.x p hp).1.call hb,(h.x p hp).2.1.call hb,(h.x p hp).2.2⟩,h.rb,h.vb,Nat.le_trans h.n hb.size⟩
theorem LB.alloc(h:LB I S u)(o:Obj):LB I S (u.alloc o):=h.call (q01 _ _)
theorem LB.drew(h:LB I S u):LB I S u.drew:=h.call (Below.refl _ _).drew
theorem lK.other{Q o:Nat}{va na v:Value}(h:lK I u va na)(hn:I.F≠Q):lK I (u.setCell ⟨Q,o,none⟩ v) va na:=h.block (Below.heap_setCell _ _ _ _ hn)
theorem qH.other{Q o:Nat}{ln:Int}{v sc:Value}(h:qH I u ln sc)(hn:I.K≠Q):qH I (u.setCell ⟨Q,o,none⟩ v) ln sc:=h.block (Below.heap_setCell _ _ _ _ hn)
theorem qH.set{ln z:Int}{sc:Value}(h:qH I u ln sc):qH I (u.setCell ⟨I.K,I.ko+4,none⟩ (.int .i64 z)) z sc:=by
 obtain⟨A,h1,h2,h3,h6,h4,h5⟩:=h;have hs:I.ko+4<A.length:=(List.getElem?_eq_some_iff.1 h4).1;refine⟨_,Lh h1 _,?_,?_,?_,?_,fun o ho=>?_⟩
 ·rw[List.getElem?_set_ne (by omega)];exact h2
 ·rw[List.getElem?_set_ne (by omega)];exact h3
 ·rw[List.getElem?_set_ne (by omega)];exact h6
 ·rw[List.getElem?_set_self hs]
 ·rw[List.getElem?_set_ne (by omega)];exact h5 o ho
theorem lK.Gl{va na v:Value}(h:lK I u va na):lK I (u.setCell ⟨I.F,I.fo+6,none⟩ v) va v:=by
 obtain⟨A,h1,a4,a6,a0⟩:=h;have hs:I.fo+6<A.length:=(List.getElem?_eq_some_iff.1 a6).1;refine⟨_,Lh h1 _,?_,?_,fun o o1 o2=>?_⟩
 ·rw[List.getElem?_set_ne (by omega)];exact a4
 ·rw[List.getElem?_set_self hs]
 ·rw[List.getElem?_set_ne (by omega)];exact a0 o o1 o2
theorem lK.OG{va na v:Value}(h:lK I u va na):lK I (u.setCell ⟨I.F,I.fo+4,none⟩ v) v na:=by
 obtain⟨A,h1,a4,a6,a0⟩:=h;have hs:I.fo+4<A.length:=(List.getElem?_eq_some_iff.1 a4).1;refine⟨_,Lh h1 _,?_,?_,fun o o1 o2=>?_⟩
 ·rw[List.getElem?_set_self hs]
 ·rw[List.getElem?_set_ne (by omega)];exact a6
 ·rw[List.getElem?_set_ne (by omega)];exact a0 o o1 o2
theorem uQ{T:Nat->Prop}{C A:Nat}(h:CU C none 0 0 A u)(g:Gx T u u')(hC:¬T C):CU C none 0 0 A u':=by
 obtain⟨t,s,h1,h2⟩:=h;have hk:u'.heap[C]?=u.heap[C]?:=g.block C h2.lt hC;exact⟨t,s,h1,Nat.lt_of_lt_of_le h2.lt g.size,⟨(World.cell?_of_block (a:=⟨C,0,none⟩) hk).trans h2.c.1,(World.cell?_of_block (a:=⟨C,1,none⟩) hk).trans h2.c.2.1,(World.cell?_of_block (a:=⟨C,2,none⟩) hk).trans h2.c.2.2⟩,fun o=>(World.frozen?_of_block (a:=⟨C,o,none⟩) hk).trans (h2.fr o),fun i hi=>absurd hi (Nat.not_lt_zero _)⟩
end
structure Lx(I:bQ)(S:bJ)(u:World)(S':bJ)(u':World):Prop where
 s:LB I S' u'
 g:Gx (fun k=>inb I k\/aj S.na=some k\/aj S.va=some k) u u'
 m:∀k,k<u.heap.size->(aj S'.na=some k->aj S.na=some k)/\(aj S'.va=some k->aj S.va=some k)
theorem Lx.below{I:bQ}{S:bJ}{u u':World}(h:LB I S u)(hb:ah u u'):Lx I S u S u':=⟨h.call hb,Gx.below _ hb,fun _ _=>⟨fun e=>e,fun e=>e⟩⟩
theorem Lx.trans{I:bQ}{S S' zZ:bJ}{u u' u'':World}(h:Lx I S u S' u')(k:Lx I S' u' zZ u''):Lx I S u zZ u'':=by
 refine⟨k.s,h.g.trans k.g (fun i hi e=>?_),fun i hi=>⟨fun e=>(h.m i hi).1 ((k.m i (Nat.lt_of_lt_of_le hi h.g.size)).1 e),fun e=>(h.m i hi).2 ((k.m i (Nat.lt_of_lt_of_le hi h.g.size)).2 e)⟩⟩;rcases e with e|e|e
 ·exact .inl e
 ·exact .inr (.inl ((h.m i hi).1 e))
 ·exact .inr (.inr ((h.m i hi).2 e))
theorem Lx.row{I:bQ}{S S':bJ}{u u':World}(h:Lx I S u S' u'){a:Option Addr}{n:Nat}{q:Nat->Int}(k:dV I S u a n q):dV I S' u' a n q:=k.gx h.g (fun _ e=>e) h.m
end
section
open Go.RowKit
attribute [local go_sem] aN
attribute [local go_sem ↓] Go.wp_at_zero Go.wp_at_succ
abbrev pA(B o:Nat):Value:=.pointer (some ⟨B,o,none⟩)
theorem Lp(I:bQ)(S:bJ)(u:World)(h:LB I S u):Calls Tryz.prog 69 #[ptr I.B] u fun e w'=>e=.returned (pA I.K I.ko)/\ah u w':=by
 have b2:u.cell? ⟨I.B,2,none⟩=some (.slice (some ⟨I.K,0,none⟩) I.nk I.kc):=h.b.1.cell 2 rfl;have hbl:=h.b.1.1;obtain⟨nk,hnk⟩:∃nk,I.nk=nk:=⟨_,rfl⟩;obtain⟨j,hj⟩:∃j:Int,j=(nk:Int)-1:=⟨_,rfl⟩;have hw:IntKind.i64.wrap ((nk:Int)-1)=j:=by
  have h1:=h.i.m.2;have h2:=h.i.hk;simp[IntKind.wrap,IntKind.bits,IntKind.signed];omega
 have hi0:(0:Int)<=j:=by have:=h.i.hk;omega
 have hi1:j<(nk:Int):=by omega
 have HS:Hid (I.ko=j.toNat*5):=by
  have:=h.i.hk;show(I.nk-1)*5=j.toNat*5;congr 1;omega
 rw[hnk] at b2;clear h hnk hj;rw[HS.out];go_in
 go_upto_region 1 with fail
 go_region_with fail
 all_goals
  go_wp2_with fail;go_ret;refine⟨?_,?_⟩
  ·first
   |rfl
   |(show _=Ending.returned (pA I.K (j.toNat*5));congr 4;omega)
   |(show _=Ending.returned (pA I.K (j.toNat*5));simp;omega)
  ·first
   |exact(Below.refl _ _).drew
   |exact Below.refl _ _
theorem qb0(I:bQ)(S:bJ)(u:World)(h:LB I S u):Calls Tryz.prog 23 #[ptr I.B] u fun e w'=>e=.returned (pA I.F I.fo)/\ah u w':=by
 have HL:Hid (LB I S u):=h;have hbl:=h.b.1.1;have hi0:(0:Int)<=(I.f:Int):=Int.natCast_nonneg _;have hi1:(I.f:Int)<(I.nf:Int):=by have:=h.i.hf;omega
 have HC:Hid (∀w,ah u w->w.cell? ⟨I.B,1,none⟩=some (.slice (some ⟨I.F,0,none⟩) I.nf I.fc)/\w.cell? ⟨I.K,I.ko,none⟩=some (.int .i64 (I.f:Int))):=fun w hw=>⟨(h.b.call hw).1.cell 1 rfl,(h.call hw).k.cell.1⟩;clear h;go_in
 go_upto_region 1 with fail
 go_region_held3 (fun w=>w.cell? ⟨I.B,1,none⟩=some (.slice (some ⟨I.F,0,none⟩) I.nf I.fc)/\w.cell? ⟨I.K,I.ko,none⟩=some (.int .i64 (I.f:Int))) (first|(refine HC.out _ ?_;(repeat(first|exact HB1.out|exact iw _|refine iq ?_));done))
  (first|(go_at_call 69;refine(Lp I S _ ?_).mono ?_;(first|exact HL.out|exact HL.drew);rintro e w1 ⟨rfl,hb⟩;have HB1:Hid (ah u w1):=aH (iq (iw u)) hb;clear hb))
 all_goals
  go_wp2_with fail;go_ret;refine⟨?_,HB1⟩
  first
  |rfl
  |(show _=Ending.returned (pA I.F (I.f*7));congr 4;omega)
theorem Zp:(Tryz.prog.info? 98).map (fun i=>(i.zero,i.size,i.bytes))=some (some (.agg #[.int .i64 0,.int .i64 0,.int .i64 0,.int .i64 0,.float .f64 0,.string ⟨#[]⟩,.slice none 0 0,.slice none 0 0]),8,104):=by kernel_rfl
theorem yk4(p:ND×NA):∀y∈n8 p,y.oneCell'=true:=by simp[n8,Value.oneCell']
theorem LB.left{I:bQ}{S:bJ}{u:World}(h:LB I S u)(z:Int):Lx I S u {S with lf:=z} (u.setCell ⟨I.B,3,none⟩ (.int .i64 z)):=by
 have hi:=h.i;have g:Gx (fun k=>k=I.B) u (u.setCell ⟨I.B,3,none⟩ (.int .i64 z)):=Gx.set u I.B 3 _;refine⟨⟨hi,h.b.set (o:=3) (by show 3<4;omega) _,uQ h.c g hi.bc.symm,h.f.other hi.bf.symm,h.k.other hi.bk.symm,jh h.r _ fun k e=>(h.rb k ((dD _ _ _).symm.trans e)).b,jh h.v _ fun k e=>(h.vb k ((dD _ _ _).symm.trans e)).b,fun p hp=>?_,h.rb,h.vb,by simpa using h.n⟩,g.mono (fun k e=>.inl (.inl e)),fun _ _=>⟨fun e=>e,fun e=>e⟩⟩;obtain⟨x1,x2,x3⟩:=h.x p hp;have hq:∀{a:Option Addr} {n:Nat} {q:Nat->Int},dV I S u a n q->dV I {S with lf:=z} (u.setCell ⟨I.B,3,none⟩ (.int .i64 z)) a n q:=fun r=>r.gx g (fun k e=>.inl (.inl e)) (fun _ _=>⟨fun e=>e,fun e=>e⟩);exact⟨hq x1,hq x2,x3⟩
def bJ.add(S:bJ)(p:ND×NA)(na:Option Addr)(nc:Nat):bJ:={S with l:=S.l++[p],na:=na,nc:=nc}
theorem LB.push{I:bQ}{S:bJ}{u w7:World}(h:LB I S u)(d:ND)(x:NA)(hr:dV I S u x.ra d.rn d.r)(hk:dV I S u x.ka d.kn d.c)(hc:d.kn<=x.kc){v':Value}(ho:w7.ownsRow 0 98 8 v' (S.l.length+1) (yI S.l++n8 (d,x)))(hg:u.grownBy w7 (Value.slice S.na S.l.length S.nc).ownBlock)(hat:v'.ownBlock=(Value.slice S.na S.l.length S.nc).ownBlock\/v'.ownBlock=some u.heap.size):∃na nc,v'=.slice na (S.l.length+1) nc/\Lx I S u (S.add (d,x) na nc) (w7.setCell ⟨I.F,I.fo+6,none⟩ v'):=by
 obtain⟨na,nc,rfl⟩:=sU ho;rw[dD] at hg;rw[dD,dD] at hat;have hi:=h.i;obtain⟨l1,l2,l3,l4⟩:=h.lt;have hgx:Gx (fun k=>aj S.na=some k) u w7:=Gx.grown hg;have g:Gx (fun k=>k=I.F\/aj S.na=some k) u (w7.setCell ⟨I.F,I.fo+6,none⟩ (.slice na (S.l.length+1) nc)):=(hgx.mono (fun k e=>.inr e)).trans (Gx.set w7 I.F (I.fo+6) _) (fun _ _ e=>.inl e);have hm:∀k,k<u.heap.size->(aj na=some k->aj S.na=some k):=fun k hk e=>by
  rcases hat with c|c
  ·exact c.symm.trans e
  ·rw[c] at e;have:=Option.some.inj e;omega
 have hbn:∀k,aj na=some k->bl I k:=fun k e=>by
  rcases hat with c|c
  ·exact h.rb k (c.symm.trans e)
  ·rw[c] at e;exact h.fresh (by have:=Option.some.inj e;omega)
 have hb:∀k,k<u.heap.size->inb I k->w7.heap[k]?=u.heap[k]?:=fun k hk hq=>hgx.block k hk (fun e=>(h.rb k e).no hq);have hq:∀{a:Option Addr} {n:Nat} {q:Nat->Int},dV I S u a n q->dV I (S.add (d,x) na nc) (w7.setCell ⟨I.F,I.fo+6,none⟩ (.slice na (S.l.length+1) nc)) a n q:=fun r=>r.gx g (fun k e=>by
  rcases e with e|e
  ·exact .inl (.inr (.inr (.inl e)))
  ·exact .inr (.inl e)) (fun k hk=>⟨hm k hk,fun e=>e⟩)
 refine⟨na,nc,rfl,⟨hi,uV (h.b.block hgx.size (hb _ l1 (.inl rfl))) hi.bf,uQ h.c g (fun e=>?_),?_,(h.k.block (hb _ l4 (.inr (.inr (.inr rfl))))).other hi.fk.symm,?_,?_,fun p hp=>?_,hbn,h.vb,Nat.le_trans h.n g.size⟩,g.mono (fun k e=>?_),fun k hk=>⟨hm k hk,fun e=>e⟩⟩
 ·rcases e with e|e
  ·exact hi.cf e
  ·exact(h.rb _ e).c rfl
 ·have:=(h.f.block (hb _ l3 (.inr (.inr (.inl rfl))))).Gl (v:=.slice na (S.l.length+1) nc);show lK _ _ _ (.slice na (S.l++[(d,x)]).length nc);rw[List.length_append];exact this
 ·show World.ownsRow _ _ _ _ (.slice na (S.l++[(d,x)]).length nc) (S.l++[(d,x)]).length (yI (S.l++[(d,x)]));rw[List.length_append,show yI (S.l++[(d,x)])=yI S.l++n8 (d,x) by simp[yI]];exact jh ho _ fun k e=>(hbn k ((dD _ _ _).symm.trans e)).f
 ·refine jh ?_ _ fun k e=>(h.vb k ((dD _ _ _).symm.trans e)).f;refine jS h.v fun k e=>?_;have e':=(dD _ _ _).symm.trans e;exact hgx.block k (q16 h.v e').2 (fun c=>sQ h.v h.r (by decide) e' c)
 ·rcases List.mem_append.1 hp with hp|hp
  ·obtain⟨x1,x2,x3⟩:=h.x p hp;exact⟨hq x1,hq x2,x3⟩
  ·obtain rfl:p=(d,x):=by simpa using hp
   exact⟨hq hr,hq hk,hc⟩
 ·rcases e with e|e
  ·exact .inl (.inr (.inr (.inl e)))
  ·exact .inr (.inl e)
theorem X0(I:bQ)(S:bJ)(d:ND)(x:NA)(u:World)(h:LB I S u)(hr:dV I S u x.ra d.rn d.r)(hk:dV I S u x.ka d.kn d.c)(hc:d.kn<=x.kc)(hl:S.l.length<=1000)(hf1:1000<=S.lf)(hf2:S.lf<=100000):Calls Tryz.prog 29 #[ptr I.B,eG d x] u fun e w'=>e=.returned (.int .i64 (S.l.length:Int))/\∃na nc,Lx I S u ({S with lf:=S.lf-1}.add (d,x) na nc) w':=by
 have HL:Hid (LB I S u/\dV I S u x.ra d.rn d.r/\dV I S u x.ka d.kn d.c):=⟨h,hr,hk⟩;have b3:=h.b.1.cell 3 rfl;have bz:=h.b.2;have hbl:=h.b.1.1;have hw:IntKind.i64.wrap (S.lf-1)=S.lf-1:=by simp[IntKind.wrap,IntKind.bits,IntKind.signed];omega
 show Calls Tryz.prog 29 #[ptr I.B,.agg #[.int .i64 d.k,.int .i64 d.l,.int .i64 d.o,.int .i64 d.n,.float .f64 d.f,.string d.s,.slice x.ra d.rn x.rc,.slice x.ka d.kn x.kc]] u fun e w'=>e=.returned (.int .i64 (S.l.length:Int))/\∃na nc,Lx I S u ({S with lf:=S.lf-1}.add (d,x) na nc) w';clear h hr hk;go_in;go_wp2_with fail;have H1:Hid (Lx I S u {S with lf:=S.lf-1} ((u.setCell ⟨I.B,3,none⟩ (.int .i64 (S.lf-1))).alloc (.cells #[.int .i64 d.k,.int .i64 d.l,.int .i64 d.o,.int .i64 d.n,.float .f64 d.f,.string d.s,.slice x.ra d.rn x.rc,.slice x.ka d.kn x.kc] 98))):=(HL.1.left (S.lf-1)).trans (Lx.below (HL.1.left (S.lf-1)).s (q01 _ _));refine(qb0 I _ _ H1.s).mono ?_;rintro e w1 ⟨rfl,hb1⟩;have H2:Hid (Lx I S u {S with lf:=S.lf-1} w1/\Has w1 u.heap.size (dJ d x)):=by
  refine⟨H1.trans (Lx.below H1.s hb1),?_⟩;have h9:=(Has.new (u.setCell ⟨I.B,3,none⟩ (.int .i64 (S.lf-1))) (dJ d x) 98).call hb1;rw[World.size_setCell] at h9;exact h9
 clear hb1 b3 bz hbl hw H1;have f6:=H2.1.s.f.cell.2.1;have fz:=H2.1.s.f.cell.2.2.1;have hfl:=H2.1.s.f.cell.2.2.2;have n0:=H2.2.cell 0 rfl;have n1:=H2.2.cell 1 rfl;have n2:=H2.2.cell 2 rfl;have n3:=H2.2.cell 3 rfl;have n4:=H2.2.cell 4 rfl;have n5:=H2.2.cell 5 rfl;have n6:=H2.2.cell 6 rfl;have n7:=H2.2.cell 7 rfl;have hul:u.heap.size<w1.heap.size:=H2.2.1;obtain⟨S1,hS1⟩:∃S1,S1={S with lf:=S.lf-1}:=⟨_,rfl⟩;obtain⟨i0,hi0,hy0,hy1,hy2⟩:=info_parts Zp;have HD:Hid (LB I {S with lf:=S.lf-1} (w1.alloc (.cells (dJ d x) 98)).drew):=(H2.1.s.alloc _).drew;obtain⟨v',w7,happ,hown,hgrow,_,hat⟩:=run_append_own_at (P:=Tryz.prog) (w1.alloc (.cells (dJ d x) 98)).drew 0 85 85 98 i0 _ 8 104 Tryz.underlying85 hi0 hy0 hy1 hy2 rfl (by decide) (.slice S.na S.l.length S.nc) S.l.length (yI S.l) HD.r ⟨w1.heap.size,0,none⟩ 1 1 (n8 (d,x)) rfl (yD w1 (dJ d x) _) (yk4 _) (by unfold maxLen;omega) (by omega) (Nat.zero_le _);have hrk:dV I {S with lf:=S.lf-1} (w1.alloc (.cells (dJ d x) 98)).drew x.ra d.rn d.r/\dV I {S with lf:=S.lf-1} (w1.alloc (.cells (dJ d x) 98)).drew x.ka d.kn d.c:=⟨((H2.1.row HL.2.1).call (q01 _ _)).call (iq (iw _)),((H2.1.row HL.2.2).call (q01 _ _)).call (iq (iw _))⟩;obtain⟨na,nc,rfl,hpush⟩:=HD.push d x hrk.1 hrk.2 hc hown hgrow hat;have HN:Hid (Lx I S u ({S with lf:=S.lf-1}.add (d,x) na nc) (w7.setCell ⟨I.F,I.fo+6,none⟩ (.slice na (S.l.length+1) nc))):=(H2.1.trans (Lx.below H2.1.s ((q01 _ _).drew))).trans hpush;have f7:w7.cell? ⟨I.F,I.fo+6,none⟩=some (.slice S.na S.l.length S.nc):=by
  have hn:aj S.na≠some I.F:=fun e=>(HD.rb _ e).f rfl;rw[dD] at hgrow;exact(World.cell?_of_block (a:=⟨I.F,I.fo+6,none⟩) (hgrow.block I.F (by simp;omega) (fun e=>hn e.symm))).trans HD.f.cell.2.1
 have J7:∀o,w7.frozen? ⟨I.F,o,none⟩=false:=fun o=>by
  have hn:aj S.na≠some I.F:=fun e=>(HD.rb _ e).f rfl;rw[dD] at hgrow;exact(World.frozen?_of_block (a:=⟨I.F,o,none⟩) (hgrow.block I.F (by simp;omega) (fun e=>hn e.symm))).trans (HD.f.cell.2.2.1 o)
 have IY:I.F<w7.heap.size:=by have h1:=hgrow.size;simp at h1;omega
 clear hown hgrow hat hpush hrk HD H2 hi0 hy0 hy1 hy2 HL hS1
 go_upto_region 3 with fail
 go_region_law (first
  |(refine wF (by rfl) _ _ _ _ (by rfl) (.slice S.na S.l.length S.nc) (.slice (some ⟨w1.heap.size,0,none⟩) 1 1) _ _ (by rfl) (by rfl) happ ?_))
 all_goals
  have f8:(w7.setCell ⟨I.F,I.fo+6,none⟩ (.slice na (S.l.length+1) nc)).cell? ⟨I.F,I.fo+6,none⟩=some (.slice na (S.l.length+1) nc):=by
   have:=HN.s.f.cell.2.1;simpa[bJ.add] using this
  generalize w7.setCell ⟨I.F,I.fo+6,none⟩ (.slice na (S.l.length+1) nc)=w8 at *;clear happ f7 J7 IY;go_wp2_with fail;go_ret;refine⟨?_,na,nc,HN⟩
  first
  |rfl
  |(congr 2;go_num)
  |(congr 2;omega)
theorem Dt{z:Int}(h1:-1000000<=z)(h2:z<=1000000):IntKind.i64.wrap z=z:=by
 simp[IntKind.wrap,IntKind.bits,IntKind.signed];omega
theorem LB.pick{I:bQ}{S:bJ}{u u':World}(h:LB I S u)(hc:CU I.C none 0 0 (S.A+2) u')(hg:u.grownBy u' (some I.C)):Lx I S u {S with A:=S.A+2} u':=by
 have hi:=h.i;have g:Gx (fun k=>k=I.C) u u':=(Gx.grown hg).mono (fun k e=>(Option.some.inj e).symm);have hb:∀k,k<u.heap.size->k≠I.C->u'.heap[k]?=u.heap[k]?:=fun k hk e=>g.block k hk e;have hq:∀{a:Option Addr} {n:Nat} {q:Nat->Int},dV I S u a n q->dV I {S with A:=S.A+2} u' a n q:=fun r=>r.gx g (fun k e=>.inl (.inr (.inl e))) (fun _ _=>⟨fun e=>e,fun e=>e⟩);obtain⟨h1,h2,h3,h4⟩:=h.lt;exact⟨⟨hi,h.b.block g.size (hb _ h1 hi.bc),hc,h.f.block (hb _ h3 hi.cf.symm),h.k.block (hb _ h4 hi.ck.symm),jS h.r (fun k e=>by
  have e':=(dD _ _ _).symm.trans e;exact hb k (q16 h.r e').2 (h.rb k e').c),jS h.v (fun k e=>by
  have e':=(dD _ _ _).symm.trans e;exact hb k (q16 h.v e').2 (h.vb k e').c),fun p hp=>⟨hq (h.x p hp).1,hq (h.x p hp).2.1,(h.x p hp).2.2⟩,h.rb,h.vb,Nat.le_trans h.n g.size⟩,g.mono (fun k e=>.inl (.inr (.inl e))),fun _ _=>⟨fun e=>e,fun e=>e⟩⟩
theorem LB.lineS{I:bQ}{S:bJ}{u:World}(h:LB I S u)(z:Int):Lx I S u {S with ln:=z} (u.setCell ⟨I.K,I.ko+4,none⟩ (.int .i64 z)):=by
 have hi:=h.i;have g:Gx (fun k=>k=I.K) u (u.setCell ⟨I.K,I.ko+4,none⟩ (.int .i64 z)):=Gx.set u I.K (I.ko+4) _;refine⟨⟨hi,uV h.b hi.bk,uQ h.c g hi.ck,h.f.other hi.fk,h.k.set,jh h.r _ fun k e=>(h.rb k ((dD _ _ _).symm.trans e)).k,jh h.v _ fun k e=>(h.vb k ((dD _ _ _).symm.trans e)).k,fun p hp=>?_,h.rb,h.vb,Nat.le_trans h.n g.size⟩,g.mono (fun k e=>.inl (.inr (.inr (.inr e)))),fun _ _=>⟨fun e=>e,fun e=>e⟩⟩;obtain⟨x1,x2,x3⟩:=h.x p hp;have hq:∀{a:Option Addr} {n:Nat} {q:Nat->Int},dV I S u a n q->dV I {S with ln:=z} (u.setCell ⟨I.K,I.ko+4,none⟩ (.int .i64 z)) a n q:=fun r=>r.gx g (fun k e=>.inl (.inr (.inr (.inr e)))) (fun _ _=>⟨fun e=>e,fun e=>e⟩);exact⟨hq x1,hq x2,x3⟩
abbrev bJ.lined(S:bJ)(v:Int):bJ:={S with A:=S.A+2,ln:=S.ln+v}
theorem z74(I:bQ)(S:bJ)(u:World)(h:LB I S u)(hA:S.A<5000)(h1:0<=S.ln)(h2:S.ln<=5000):Calls Tryz.prog 30 #[ptr I.B] u fun e w'=>∃v:Int,0<=v/\v<=2/\e=.returned (.int .i64 (1+(S.ln+v)))/\Lx I S u (S.lined v) w':=by
 have HL:Hid (LB I S u):=h;clear h;go_in
 go_upto_region 1 with fail
 have hb0:=HL.b.1.cell 0 rfl;have hk0:=HL.k.cell.2.1
 go_region_with
  (first
   |(go_at_call 69;refine(Lp I S _ ?_).mono ?_;(first|exact HL.out|exact HL.drew);rintro e w1 ⟨rfl,hb⟩;have HB1:Hid (ah u w1):=aH (iq (iw u)) hb;have hk1:=(HL.call HB1.out).k.cell.2.1;have hb1:=(HL.call HB1.out).b.1.cell 0 rfl;clear hb)
   |(go_at_call 70;refine(Wp I.C none 0 0 S.A 3 _ (by omega) (by omega) (by omega) ?_).mono ?_;exact(HL.call HB1).c;rintro e w2 ⟨⟨v,rfl,hv1,hv2⟩,hc,hg⟩;have H2:Hid (Lx I S u {S with A:=S.A+2} w2):=(Lx.below HL.out HB1.out).trans ((HL.call HB1.out).pick hc hg);have hwv:IntKind.i64.wrap (S.ln+v)=S.ln+v:=Dt (by omega) (by omega);have hb2:=H2.s.b.1.cell 0 rfl;have kz:=H2.s.k.cell.2.2.1;have kc:=H2.s.k.cell.2.1;have kl:=H2.s.k.cell.2.2.2.1;clear hc hg))
 all_goals
  have H3:Hid (Lx I S u (S.lined v) (w2.setCell ⟨I.K,I.ko+4,none⟩ (.int .i64 (S.ln+v)))):=H2.trans (H2.s.lineS (S.ln+v));generalize w2.setCell ⟨I.K,I.ko+4,none⟩ (.int .i64 (S.ln+v))=w3 at *;clear hk0 hb0 kz kc kl hb2 hwv;go_wp2_with fail;refine(Lp I _ _ H3.s).mono ?_;rintro e w4 ⟨rfl,hb4⟩;have H4:Hid (Lx I S u (S.lined v) w4):=H3.trans (Lx.below H3.s hb4);have k4:=H4.s.k.cell.2.1;have hw4:IntKind.i64.wrap (1+(S.ln+v))=1+(S.ln+v):=Dt (by omega) (by omega);clear hb4;go_wp2_with fail;go_ret;exact⟨v,hv1,by omega,rfl,H4.out⟩
structure IL where
 a:Option Addr
 n:Nat
 c:Nat
 q:Nat->Int
abbrev DF(r:IL):Value:=.slice r.a r.n r.c
abbrev aY:IL:=⟨none,0,0,fun _=>0⟩
abbrev gQ(k l n:Int)(r c:IL):ND:=⟨k,l,0,n,0,⟨#[]⟩,r.n,r.q,c.n,c.q⟩
abbrev gJ(r c:IL):NA:=⟨r.a,r.c,c.a,c.c⟩
theorem iM(I:bQ)(S:bJ)(u:World):dV I S u none 0 (fun _=>0):=⟨fun h=>absurd h (Nat.not_lt_zero _),fun _ e=>nomatch e⟩
structure Gd(S:bJ)(n:Nat):Prop where
 l:S.l.length<=n
 f1:3000<=S.lf+n
 f2:S.lf<=100000
 A:S.A<=2*n
 n1:0<=S.ln
 n2:S.ln<=2*n
structure Ad(I:bQ)(S:bJ)(u:World)(d:ND)(x:NA)(S':bJ)(w':World):Prop where
 lx:Lx I S u S' w'
 l:S'.l=S.l++[(d,x)]
 va:S'.va=S.va/\S'.vc=S.vc/\S'.vl=S.vl
 sc:S'.sc=S.sc
theorem Gd.lf{S:bJ}{n:Nat}(h:Gd S n)(hn:n<=600):1000<=S.lf:=by have:=h.f1;omega
theorem zG(I:bQ)(S:bJ)(k:Int)(r c:IL)(n:Nat)(u:World)(h:LB I S u)(hg:Gd S n)(hn:n<=600)(hr:dV I S u r.a r.n r.q)(hc:dV I S u c.a c.n c.q)(hcc:c.n<=c.c):Calls Tryz.prog 13 #[ptr I.B,.int .i64 k,DF r,DF c] u fun e w'=>e=.returned (.int .i64 (S.l.length:Int))/\∃(l:Int) (S':bJ),1<=l/\l<=5000/\Ad I S u (gQ k l 0 r c) (gJ r c) S' w'/\Gd S' (n+1):=by
 have HL:Hid (LB I S u/\Gd S n/\dV I S u r.a r.n r.q/\dV I S u c.a c.n c.q):=⟨h,hg,hr,hc⟩;clear h hg hr hc;go_in;go_wp2_with fail;refine(z74 I S _ HL.1 (by have:=HL.2.1.A;omega) HL.2.1.n1 (by have:=HL.2.1.n2;omega)).mono ?_;rintro e w1 ⟨v,hv1,hv2,rfl,hx⟩;have HX:Hid (Lx I S u (S.lined v) w1):=hx;clear hx;go_wp2_with fail;have hN:=X0 I (S.lined v) (gQ k (1+(S.ln+v)) 0 r c) (gJ r c) w1 HX.s (HX.row HL.2.2.1) (HX.row HL.2.2.2) hcc (by have:=HL.2.1.l;show S.l.length<=1000;omega) (HL.2.1.lf hn) HL.2.1.f2;refine hN.mono ?_;clear hN;rintro e w2 ⟨rfl,na,nc,hy⟩;have HY:Hid _:=HX.trans hy;clear hy;go_wp2_with fail;go_ret;have g:=HL.2.1;have g1:=g.l;have g2:=g.f1;have g3:=g.f2;have g4:=g.A;have g5:=g.n1;have g6:=g.n2;refine⟨rfl,1+(S.ln+v),_,by omega,by omega,⟨HY.out,rfl,⟨rfl,rfl,rfl⟩,rfl⟩,⟨?_,?_,?_,?_,?_,?_⟩⟩
 ·show(S.l++[_]).length<=n+1;simp;omega
 ·show 3000<=S.lf-1+(n+1:Nat);omega
 ·show S.lf-1<=100000;omega
 ·show S.A+2<=2*(n+1);omega
 ·show 0<=S.ln+v;omega
 ·show S.ln+v<=2*(n+1:Nat);omega
theorem Gd.add{S:bJ}{n:Nat}(g:Gd S n)(p:ND×NA)(na:Option Addr)(nc:Nat):Gd ({S with lf:=S.lf-1}.add p na nc) (n+1):=by
 have g1:=g.l;have g2:=g.f1;have g3:=g.f2;have g4:=g.A;have g5:=g.n1;have g6:=g.n2;refine⟨?_,?_,?_,?_,?_,?_⟩
 ·show(S.l++[_]).length<=n+1;simp;omega
 ·show 3000<=S.lf-1+(n+1:Nat);omega
 ·show S.lf-1<=100000;omega
 ·show S.A<=2*(n+1);omega
 ·exact g5
 ·show S.ln<=2*(n+1:Nat);omega
def yu(I:bQ)(S:bJ)(u:World)(d:ND)(x:NA)(n:Nat)(e:Ending)(w':World):Prop:=e=.returned (.int .i64 (S.l.length:Int))/\∃S',Ad I S u d x S' w'/\Gd S' (n+1)
theorem ET(I:bQ)(S:bJ)(d:ND)(x:NA)(n:Nat)(u:World)(h:LB I S u)(hg:Gd S n)(hn:n<=600)(hr:dV I S u x.ra d.rn d.r)(hk:dV I S u x.ka d.kn d.c)(hc:d.kn<=x.kc):Calls Tryz.prog 29 #[ptr I.B,eG d x] u fun e w'=>yu I S u d x n e w':=
 (X0 I S d x u h hr hk hc (by have:=hg.l;omega) (hg.lf hn) hg.f2).mono (by
  rintro e w' ⟨rfl,na,nc,hx⟩;exact⟨rfl,_,⟨hx,rfl,⟨rfl,rfl,rfl⟩,rfl⟩,hg.add _ na nc⟩)
theorem yu.first{I:bQ}{S:bJ}{u u1:World}{d:ND}{x:NA}{n:Nat}{e:Ending}{w':World}(h:LB I S u)(hb:ah u u1)(k:yu I S u1 d x n e w'):yu I S u d x n e w':=by
 obtain⟨rfl,S',ha,hg⟩:=k;exact⟨rfl,S',⟨(Lx.below h hb).trans ha.lx,ha.l,ha.va,ha.sc⟩,hg⟩
theorem Xi(I:bQ)(S:bJ)(n:Nat)(u:World)(h:LB I S u)(hg:Gd S n)(hn:n<=600):Calls Tryz.prog 24 #[ptr I.B,.int .i64 0] u fun e w'=>yu I S u (gQ 28 0 0 aY aY) (gJ aY aY) n e w':=by
 have HN:Hid _:=ET I S (gQ 28 0 0 aY aY) (gJ aY aY) n u h hg hn (iM _ _ _) (iM _ _ _) (Nat.le_refl _);clear h hg;go_in;go_wp2_with fail;refine Calls.mono HN ?_;rintro e w1 ⟨rfl,hx⟩;have HX:Hid _:=hx;clear hx HN;go_wp2_with fail;go_ret;exact⟨rfl,HX⟩
theorem zd5(I:bQ)(S:bJ)(z:Int)(n:Nat)(u:World)(h:LB I S u)(hg:Gd S n)(hn:n<=600):Calls Tryz.prog 25 #[ptr I.B,.int .i64 z] u fun e w'=>yu I S u (gQ 23 0 z aY aY) (gJ aY aY) n e w':=by
 have HN:Hid _:=ET I S (gQ 23 0 z aY aY) (gJ aY aY) n u h hg hn (iM _ _ _) (iM _ _ _) (Nat.le_refl _);clear h hg;go_in;go_wp2_with fail;refine Calls.mono HN ?_;rintro e w1 ⟨rfl,hx⟩;have HX:Hid _:=hx;clear hx HN;go_wp2_with fail;go_ret;exact⟨rfl,HX⟩
theorem z77(I:bQ)(S:bJ)(k:Int)(c:IL)(n:Nat)(u:World)(h:LB I S u)(hg:Gd S n)(hn:n<=600)(hc:dV I S u c.a c.n c.q)(hcc:c.n<=c.c):Calls Tryz.prog 72 #[ptr I.B,.int .i64 k,DF c] u fun e w'=>yu I S u (gQ k 0 0 aY c) (gJ aY c) n e w':=by
 have HN:Hid _:=ET I S (gQ k 0 0 aY c) (gJ aY c) n u h hg hn (iM _ _ _) hc hcc;clear h hg hc;go_in;go_wp2_with fail;refine Calls.mono HN ?_;rintro e w1 ⟨rfl,hx⟩;have HX:Hid _:=hx;clear hx HN;go_wp2_with fail;go_ret;exact⟨rfl,HX⟩
theorem PN(I:bQ)(S:bJ)(c:IL)(n:Nat)(u:World)(h:LB I S u)(hg:Gd S n)(hn:n<=600)(hc:dV I S u c.a c.n c.q)(hcc:c.n<=c.c):Calls Tryz.prog 26 #[ptr I.B,DF c] u fun e w'=>yu I S u (gQ 34 0 0 aY c) (gJ aY c) n e w':=by
 have HN:Hid _:=z77 I S 34 c n u h hg hn hc hcc;clear h hg hc;go_in;go_wp2_with fail;refine Calls.mono HN ?_;rintro e w1 ⟨rfl,hx⟩;have HX:Hid _:=hx;clear hx HN;go_wp2_with fail;go_ret;exact⟨rfl,HX⟩
theorem wE{I:bQ}{S:bJ}{u:World}(h:LB I S u)(z:Int)(t:TypeId):dV I S (u.alloc (.cells #[.int .i64 z] t)) (some ⟨u.heap.size,0,none⟩) 1 (fun _=>z):=by
 refine⟨fun _=>⟨u.heap.size,0,rfl,Nat.zero_le _,by simp,fun i hi j hj=>?_⟩,fun b e=>?_⟩
 ·obtain rfl:i=0:=by omega
  obtain rfl:j=0:=by omega
  exact(Has.new u #[.int .i64 z] t).2 0
 ·cases e;exact⟨h.fresh (Nat.le_refl _),by simp,fun e=>Nat.lt_irrefl _ (q16 h.r e).2,fun e=>Nat.lt_irrefl _ (q16 h.v e).2⟩
theorem qc3(I:bQ)(S:bJ)(z:Int)(n:Nat)(u:World)(h:LB I S u)(hg:Gd S n)(hn:n<=600):Calls Tryz.prog 32 #[ptr I.B,.int .i64 z] u fun e w'=>yu I S u (gQ 26 0 0 ⟨some ⟨u.heap.size,0,none⟩,1,1,fun _=>z⟩ aY) (gJ ⟨some ⟨u.heap.size,0,none⟩,1,1,fun _=>z⟩ aY) n e w':=by
 have HL:Hid (LB I S u):=h;have HN:Hid _:=ET I S (gQ 26 0 0 ⟨some ⟨u.heap.size,0,none⟩,1,1,fun _=>z⟩ aY) (gJ ⟨some ⟨u.heap.size,0,none⟩,1,1,fun _=>z⟩ aY) n (u.alloc (.cells #[.int .i64 z] 3)) (h.alloc _) hg hn (wE h z _) (iM _ _ _) (Nat.le_refl _);clear h hg;go_in;go_wp2_with fail;refine Calls.mono HN ?_;intro e w1 hx;have HX:=yu.first HL.out (q01 _ _) hx;obtain⟨rfl,hy⟩:=HX;have HY:Hid _:=hy;clear hx HN hy;go_wp2_with fail;go_ret;exact⟨rfl,HY⟩
theorem zd3(v:World)(o:Obj):(v.alloc o).heap[v.heap.size]?=some o:=by
 show(v.heap.push o)[v.heap.size]?=some o;exact Array.getElem?_push_size
theorem zc1(u:World)(z:Int):(u.alloc (.cells #[.int .i64 z] 3)).ownsRow 0 3 1 (.slice (some ⟨u.heap.size,0,none⟩) 1 1) 1 [.int .i64 z]:=
 ⟨rfl,.inr ⟨u.heap.size,1,#[.int .i64 z],rfl,Nat.zero_le _,zd3 u _,Nat.le_refl _,by unfold maxLen;omega,rfl,rfl⟩⟩
abbrev AO(f:Int)(q:Nat->Int)(j:Nat):List Value:=.int .i64 f :: (List.range j).map fun t=>.int .i64 (q t)
abbrev AL(f:Int)(q:Nat->Int)(j:Nat):Int:=if j=0 then f else q (j-1)
theorem yd3(f:Int)(q:Nat->Int)(m i:Nat)(h:i<m+1):(AO f q m)[i]?=some (.int .i64 (AL f q i)):=by
 rcases i with _|i
 ·rfl
 ·show((List.range m).map fun t=>Value.int .i64 (q t))[i]?=_;rw[List.getElem?_map,List.getElem?_range (by omega)];simp[AL]
theorem y33(f:Int)(q:Nat->Int)(j:Nat):AO f q (j+1)=AO f q j++[.int .i64 (q j)]:=by simp[AO,List.range_succ]
theorem yk0{I:bQ}{S:bJ}{u w7:World}(h:LB I S u){g c m:Nat}{f:Int}{q:Nat->Int}(ho:w7.ownsRow 0 3 1 (.slice (some ⟨g,0,none⟩) (m+1) c) (m+1) (AO f q m))(hg:u.heap.size<=g):dV I S w7 (some ⟨g,0,none⟩) (m+1) (AL f q):=by
 refine⟨fun _=>⟨g,0,rfl,Nat.zero_le _,(q16 ho rfl).2,fun i hi j hj=>?_⟩,fun b e=>?_⟩
 ·obtain rfl:j=0:=by omega
  have:=ho.cells (g:=g) rfl i _ (yd3 f q m i hi);rw[show 0+i*1+0=i by omega]
  cases i<;>simpa[Addr.add] using this
 ·cases e;exact⟨h.fresh hg,(q16 ho rfl).2,fun e=>by have h1:=(q16 h.r e).2;replace h1:g<u.heap.size:=h1;omega,fun e=>by have h1:=(q16 h.v e).2;replace h1:g<u.heap.size:=h1;omega⟩
structure Yi(I:bQ)(S:bJ)(u:World)(m:Nat)(q:Nat->Int)(n:Nat)(l:Int)(r2 r3:IL)(S':bJ)(w':World):Prop where
 lx:Lx I S u S' w'
 ll:S'.l=S.l++[(gQ 28 0 0 aY aY,gJ aY aY),(gQ 34 0 0 aY r2,gJ aY r2),(gQ 4 l 0 aY r3,gJ aY r3)]
 va:S'.vl=S.vl
 sc:S'.sc=S.sc
 g:Gd S' (n+3)
 l1:1<=l
 l2:l<=5000
 VI:r2.n=m+1
 r2q:r2.q=AL (S.l.length:Int) q
 r2c:m+1<=r2.c
 VH:r3.n=1
 r3q:r3.q=fun _=>(S.l.length:Int)+1
 r3c:1<=r3.c
def PrP(I:bQ)(S:bJ)(u:World)(m:Nat)(q:Nat->Int)(n:Nat)(e:Ending)(w':World):Prop:=e=.returned (.int .i64 ((S.l.length:Int)+2))/\∃l r2 r3 S',Yi I S u m q n l r2 r3 S' w'
theorem z12(I:bQ)(S:bJ)(kb m kc:Nat)(q:Nat->Int)(n:Nat)(u:World)(h:LB I S u)(hg:Gd S n)(hn:n<=590)(hm1:1<=m)(hm:m<=5)(hc:dV I S u (some ⟨kb,0,none⟩) m q):Calls Tryz.prog 33 #[ptr I.B,.slice (some ⟨kb,0,none⟩) m kc] u fun e w'=>PrP I S u m q n e w':=by
 have HL:Hid (LB I S u/\Gd S n/\dV I S u (some ⟨kb,0,none⟩) m q/\1<=m):=⟨h,hg,hc,hm1⟩;clear h hg hc hm1;go_in;go_wp2_with fail;refine(Xi I S n _ HL.1 HL.2.1 (by omega)).mono ?_;rintro e w1 ⟨rfl,S1,ha,hg1⟩;have H1:Hid (Ad I S u (gQ 28 0 0 aY aY) (gJ aY aY) S1 w1/\Gd S1 (n+1)/\dV I S1 w1 (some ⟨kb,0,none⟩) m q):=⟨ha,hg1,ha.lx.row HL.2.2.1⟩;clear ha hg1;obtain⟨f,hf⟩:∃f:Int,(S.l.length:Int)=f:=⟨_,rfl⟩;rw[hf];have HF:Hid ((S.l.length:Int)=f):=hf;clear hf;go_wp2_with fail
 go_loopw [6,16] (fun v i wr=>∃j g c:Nat,j<=m/\v=.slice (some ⟨g,0,none⟩) (j+1) c/\i=.int .i64 (j:Int)/\Hid (ah w1 wr/\wr.ownsRow 0 3 1 (.slice (some ⟨g,0,none⟩) (j+1) c) (j+1) (AO f q j)/\w1.heap.size<=g/\j+1<=c)) (fun _ i _=>m-(intOf i).toNat)
 case atStart=>exact⟨0,w1.heap.size,1,Nat.zero_le _,rfl,rfl,q01 _ _,zc1 _ f,Nat.le_refl _,Nat.le_refl _⟩
 case round=>
  obtain⟨j,g,c,hj,rfl,rfl,HR⟩:=hrel;by_cases hjm:j<m
  ·obtain⟨i0,hi0,hy0,hy1,hy2⟩:=info_parts NR;obtain⟨Qk,Qj,e0,_,hkl,kc0⟩:=aX (aP.below H1.2.2.1 HR.1) hjm
   cases e0;obtain⟨v',w7,happ,hown,hgrow,_,hat⟩:=run_append_own_at (P:=Tryz.prog) (wr.alloc (.cells #[.int .i64 (q j)] 3)) 0 45 45 3 i0 _ 1 8 Tryz.underlying45 hi0 hy0 hy1 hy2 rfl (by decide) (.slice (some ⟨g,0,none⟩) (j+1) c) (j+1) (AO f q j) (mZ HR.2.1 (q01 _ _)) ⟨wr.heap.size,0,none⟩ 1 1 [.int .i64 (q j)] rfl (cell_one_new _ _ _) (by simp[Value.oneCell']) (by unfold maxLen;omega) (by omega) (Nat.zero_le _);obtain⟨g',c',rfl⟩:∃g c,v'=.slice (some ⟨g,0,none⟩) (j+1 + 1) c:=by
    rcases hown.2 with⟨_,e⟩|⟨g,c,cur,e,_⟩
    ·omega
    ·exact⟨g,c,e⟩
   have hgl:w1.heap.size<=g':=by
    have h9:=HR.1.size;have h8:=HR.2.2.1;rcases hat with e|e
    ·have:=Option.some.inj e;replace this:g'=g:=this;omega
    ·have:=Option.some.inj e;simp at this;omega
   have HN:Hid (ah w1 w7/\w7.ownsRow 0 3 1 (.slice (some ⟨g',0,none⟩) (j+1 + 1) c') (j+1 + 1) (AO f q (j+1))/\w1.heap.size<=g'/\j+1 + 1<=c'):=⟨(HR.1.alloc HR.1.size _).grown hgrow (by have:=HR.1.size;simp;omega) (fun k e=>by have:=Option.some.inj e;replace this:g=k:=this;have:=HR.2.2.1;omega),by rw[y33];exact hown,hgl,by
    rcases hown.2 with⟨_,e⟩|⟨g,c,cur,e,_,_,hc,_⟩
    ·omega
    ·cases e;exact hc⟩
   clear hown hgrow hat hgl hi0 hy0 hy1 hy2 HR;simp only[Nat.zero_add] at kc0;go_wp2_with (at_builtin;refine q32 (by rfl) _ _ _ _ (by rfl) (.slice (some ⟨g,0,none⟩) (j+1) c) (.slice (some ⟨wr.heap.size,0,none⟩) 1 1) _ _ (by rfl) (by rfl) happ ?_);go_roundw
   case rel=>exact⟨j+1,g',c',by omega,rfl,by go_num,HN⟩
   case measure=>simp[intOf];omega
  ·obtain rfl:j=m:=by omega
   have H2:Hid (Lx I S1 w1 S1 wr):=Lx.below H1.1.lx.s HR.1;go_wp2_with fail;refine(PN I S1 ⟨some ⟨g,0,none⟩,j+1,c,AL f q⟩ (n+1) _ H2.s H1.2.1 (by omega) (yk0 H1.1.lx.s HR.2.1 HR.2.2.1) HR.2.2.2).mono ?_;rintro e w3 ⟨rfl,S2,ha2,hg2⟩;have H3:Hid (Ad I S1 wr (gQ 34 0 0 aY ⟨some ⟨g,0,none⟩,j+1,c,AL f q⟩) (gJ aY ⟨some ⟨g,0,none⟩,j+1,c,AL f q⟩) S2 w3/\Gd S2 (n+1 + 1)):=⟨ha2,hg2⟩;clear ha2 hg2;go_wp2_with fail;have hst:=zG I S2 4 aY ⟨some ⟨w3.heap.size,0,none⟩,1,1,fun _=>(S1.l.length:Int)⟩ (n+1 + 1) (w3.alloc (.cells #[.int .i64 (S1.l.length:Int)] 3)) (H3.1.lx.s.alloc _) H3.2 (by omega) (iM _ _ _) (wE H3.1.lx.s _ _) (Nat.le_refl _);refine hst.mono ?_;clear hst;rintro e w4 ⟨rfl,l,S3,hl1,hl2,XJ,hg3⟩;have H4:Hid (Ad I S2 (w3.alloc (.cells #[.int .i64 (S1.l.length:Int)] 3)) (gQ 4 l 0 aY ⟨some ⟨w3.heap.size,0,none⟩,1,1,fun _=>(S1.l.length:Int)⟩) (gJ aY ⟨some ⟨w3.heap.size,0,none⟩,1,1,fun _=>(S1.l.length:Int)⟩) S3 w4/\Gd S3 (n+1 + 1+1)):=⟨XJ,hg3⟩;clear XJ hg3;go_wp2_with fail;go_ret;have e1:=H1.1.l;have e2:=H3.1.l;have e3:=H4.1.l;have n1:(S1.l.length:Int)=(S.l.length:Int)+1:=by rw[e1];simp
   have n2:(S2.l.length:Int)=(S.l.length:Int)+2:=by rw[e2,e1];simp
   refine⟨by rw[<-n2];rfl,l,⟨some ⟨g,0,none⟩,j+1,c,AL f q⟩,⟨some ⟨w3.heap.size,0,none⟩,1,1,fun _=>(S1.l.length:Int)⟩,S3,⟨((H1.1.lx.trans H2.out).trans H3.1.lx).trans ((Lx.below H3.1.lx.s (q01 _ _)).trans H4.1.lx),?_,?_,?_,H4.2,hl1,hl2,rfl,?_,HR.2.2.2,rfl,by rw[n1],Nat.le_refl _⟩⟩
   ·rw[e3,e2,e1];simp
   ·rw[H4.1.va.2.2,H3.1.va.2.2,H1.1.va.2.2]
   ·rw[H4.1.sc,H3.1.sc,H1.1.sc]
   ·rw[HF.out]
abbrev zU:Array Value:=#[.string ⟨#[109,97,105,110]⟩,.int .i64 0,.int .i64 0,.bool true,.slice none 0 0,.slice none 0 0,.slice none 0 0]
abbrev Jd:Array Value:=#[.int .i64 0,.slice none 0 0,.int .i64 0,.int .i64 0,.int .i64 0]
theorem TL:(Tryz.prog.info? 87).map (fun i=>(i.zero,i.size,i.bytes))=some (some (.agg #[.string ⟨#[]⟩,.int .i64 0,.int .i64 0,.bool false,.slice none 0 0,.slice none 0 0,.slice none 0 0]),7,112):=by kernel_rfl
theorem TK:(Tryz.prog.info? 89).map (fun i=>(i.zero,i.size,i.bytes))=some (some (.agg #[.int .i64 0,.slice none 0 0,.int .i64 0,.int .i64 0,.int .i64 0]),5,56):=by kernel_rfl
def Dy:bJ:=⟨100000,0,0,none,0,[],[],none,0,.slice none 0 0⟩
theorem append_nil{w0:World}(A:Array Value){t e:TypeId}{z:Value}{K b:Nat}(ht:Tryz.prog.underlying t=some (.slice e))(hi:(Tryz.prog.info? e).map (fun i=>(i.zero,i.size,i.bytes))=some (some z,K,b))(hz:z.cells.size=K)(hK:0<K)(hb:b<=1000)(hA:A.size=K)(h1:∀y∈A.toList,y.oneCell'=true)(hn:∀(j:Nat) (v:Value),A.toList[j]?=some v->(w0.alloc (.cells A e)).cell? ((⟨w0.heap.size,0,none⟩:Addr).add j)=some v):∃g cap cur w',(Builtin.append_ #[t,t] t #[.slice none 0 0,.slice (some ⟨w0.heap.size,0,none⟩) 1 1]).run Tryz.prog (w0.alloc (.cells A e))=.ok (.slice (some ⟨g,0,none⟩) 1 cap) w'/\OwnB w' g cur/\(∀(j:Nat) (v:Value),A[j]?=some v->cur[j]?=some v)/\w0.heap.size<g/\ah w0 w'/\1<=cap/\w'.ownsRow 0 e K (.slice (some ⟨g,0,none⟩) 1 cap) 1 A.toList:=by
 obtain⟨i0,hi0,hy0,hy1,hy2⟩:=info_parts hi;obtain⟨v',w7,happ,hown,hgrow,_,hat⟩:=run_append_own_at (P:=Tryz.prog) (w0.alloc (.cells A e)) 0 t t e i0 z K b ht hi0 hy0 hy1 hy2 hz hK (.slice none 0 0) 0 [] (World.ownsRow_nil _ _ _ _) ⟨w0.heap.size,0,none⟩ 1 1 A.toList (by simp[hA]) hn h1 (by unfold maxLen;omega) (by omega) (Nat.zero_le _);rcases hown.2 with⟨_,d⟩|⟨g,cap,cur,e1,hb,hg,h2,h3,h4,h5⟩
 ·omega
 ·subst e1;refine⟨g,cap,cur,w7,happ,⟨⟨(Array.getElem?_eq_some_iff.1 hg).1,fun o=>by simp[World.cell?,hg]⟩,fun o=>by simp[World.frozen?,hg]⟩,fun j v hj=>?_,?_,(q01 w0 _).grown hgrow (by simp) (fun k e=>by cases e),by omega,by simpa using hown⟩
  ·simp at h5;have hjl:j<K:=by rw[<-hA];exact(Array.getElem?_eq_some_iff.1 hj).1
   rw[<-Array.getElem?_toList,<-List.getElem?_take_of_lt (j:=K) hjl,h5,Array.getElem?_toList];exact hj
  ·rcases hat with e|e
   ·cases e
   ·have:=Option.some.inj e;simp at this;omega
structure Si(w:World)(I:bQ)(w':World):Prop where
 s:LB I Dy w'
 b:ah w w'
 h:∀k,inb I k->w.heap.size<=k
 nf:I.nf=1
 f:I.f=0
 nk:I.nk=1
 A:I.A0=zU.toList
 N:I.N=w.heap.size
theorem z78(w:World):Calls Tryz.prog 11 #[] w fun e w'=>∃I:bQ,e=.returned (ptr I.B)/\Si w I w':=by
 go_in
 go_upto_region 2 with fail
 obtain⟨w1,hw1⟩:∃w1,(w.alloc (.cells #[.slice none 0 0,.int .i64 0,.int .u64 0] 80)).alloc (.cells #[ptr w.heap.size,.slice none 0 0,.slice none 0 0,.int .i64 100000] 83)=w1:=⟨_,rfl⟩;have H1:Hid (ah w w1/\OwnB w1 w.heap.size #[.slice none 0 0,.int .i64 0,.int .u64 0]/\OwnB w1 (w.heap.size+1) #[ptr w.heap.size,.slice none 0 0,.slice none 0 0,.int .i64 100000]):=by
  rw[<-hw1];exact⟨iy _ _ _,(OwnB.new _ _ _).alloc _,q35 _ _ _ _⟩
 rw[hw1];clear hw1;obtain⟨C,hC⟩:∃C,w.heap.size=C:=⟨_,rfl⟩;obtain⟨B,hB⟩:∃B,w.heap.size+1=B:=⟨_,rfl⟩;have HC:Hid (w.heap.size=C/\w.heap.size+1=B):=⟨hC,hB⟩;have HB1:Hid (ah w w1):=H1.1;rw[hB,hC] at H1;rw[hB];clear hB hC;obtain⟨ta,hta⟩:∃ta:Option Addr,Hid (ta=none):=⟨_,rfl⟩;obtain⟨tn,htn⟩:∃tn:Nat,Hid (tn=0):=⟨_,rfl⟩;obtain⟨tc,htc⟩:∃tc:Nat,Hid (tc=0):=⟨_,rfl⟩;have wV:Hid (Value.slice none 0 0=.slice ta tn tc):=by rw[hta.out,htn.out,htc.out];exact rfl
 obtain⟨F,fc,Eb,w2,happ,hF,hFc,hFg,hb2,hfc,XZ⟩:=append_nil (w0:=w1) zU Tryz.underlying29 TL rfl (by decide) (by decide) rfl (by simp[Value.oneCell']) (yD w1 zU _);have b1:w1.cell? ⟨B,1,none⟩=some (.slice none 0 0):=H1.2.2.1.cell 1 rfl;have b1':w2.cell? ⟨B,1,none⟩=some (.slice none 0 0):=(H1.2.2.call hb2).1.cell 1 rfl;have Yc:=(H1.2.2.call hb2).2;have hBl:=H1.2.2.1.1;have IZ:=(H1.2.2.call hb2).1.1;have H2:Hid (OwnB w2 F Eb/\(∀(j:Nat) (v:Value),zU[j]?=some v->Eb[j]?=some v)/\w1.heap.size<F/\ah w1 w2/\w2.ownsRow 0 87 7 (.slice (some ⟨F,0,none⟩) 1 fc) 1 zU.toList):=⟨hF,hFc,hFg,hb2,XZ⟩;rw[wV.out] at happ b1 b1';clear hF hFc hFg hb2 XZ
 go_upto_region 3 with(at_builtin;refine q32 (by rfl) _ _ _ _ (by rfl) (.slice ta tn tc) (.slice (some ⟨w1.heap.size,0,none⟩) 1 1) _ _ (by rfl) (by rfl) happ ?_)
 obtain⟨w3,hw3⟩:∃w3,w2.setCell ⟨B,1,none⟩ (.slice (some ⟨F,0,none⟩) 1 fc)=w3:=⟨_,rfl⟩;have H3:Hid (OwnB w3 F Eb/\OwnB w3 B #[ptr C,.slice (some ⟨F,0,none⟩) 1 fc,.slice none 0 0,.int .i64 100000]/\OwnB w3 C #[.slice none 0 0,.int .i64 0,.int .u64 0]/\ah w w3/\B<F/\w3.ownsRow 0 87 7 (.slice (some ⟨F,0,none⟩) 1 fc) 1 zU.toList):=by
  have h1:=H1.2.2.1.1;have h2:=H2.2.2.1;have hc:=HC.out;rw[<-hw3];exact⟨uV H2.1 (by omega),(H1.2.2.call H2.2.2.2.1).set (o:=1) (by show 1<4;omega) _,uV (H1.2.1.call H2.2.2.2.1) (by omega),q23 (aH HB1.out H2.2.2.2.1) _ (by omega),by omega,jh H2.2.2.2.2 _ (fun k e=>by have:=Option.some.inj e;replace this:F=k:=this;show k≠B;omega)⟩
 rw[hw3];clear hw3 happ b1 b1' Yc hBl IZ;obtain⟨K,kc,Jc,w4,happ,hK,hKc,XW,hb4,hkc,hKo⟩:=append_nil (w0:=w3) Jd Tryz.underlying81 TK rfl (by decide) (by decide) rfl (by simp[Value.oneCell']) (yD w3 Jd _);have b2:w3.cell? ⟨B,2,none⟩=some (.slice none 0 0):=H3.2.1.1.cell 2 rfl;have b2':w4.cell? ⟨B,2,none⟩=some (.slice none 0 0):=(H3.2.1.call hb4).1.cell 2 rfl;have Yc:=(H3.2.1.call hb4).2;have hBl:=H3.2.1.1.1;have IZ:=(H3.2.1.call hb4).1.1;have H4:Hid (OwnB w4 K Jc/\(∀(j:Nat) (v:Value),Jd[j]?=some v->Jc[j]?=some v)/\w3.heap.size<K/\ah w3 w4/\w4.ownsRow 0 89 5 (.slice (some ⟨K,0,none⟩) 1 kc) 1 Jd.toList):=⟨hK,hKc,XW,hb4,hKo⟩;rw[wV.out] at happ b2 b2';clear hK hKc XW hb4 hKo;go_wp2_with (at_builtin;refine q32 (by rfl) _ _ _ _ (by rfl) (.slice ta tn tc) (.slice (some ⟨w3.heap.size,0,none⟩) 1 1) _ _ (by rfl) (by rfl) happ ?_);go_ret;obtain⟨q1,q2,q3,q4,q5,q6⟩:=H3.out;obtain⟨p1,p2,p3,p4,p5⟩:=H4.out;have hc:=HC.out;have r1:=q1.1.1;have r2:=q2.1.1;have r3:=q3.1.1;have r4:=p4.size;have r5:=p1.1.1;have r6:=q4.size;refine⟨⟨w.heap.size,B,C,F,K,fc,kc,1,0,1,zU.toList,[]⟩,rfl,⟨⟨⟨by show B≠C;omega,by show B≠F;omega,by show B≠K;omega,by show C≠F;omega,by show C≠K;omega,by show F≠K;omega,by show 0<1;omega,by show 1<=1;omega,by show 1<=50/\1<=50;omega⟩,(q2.call p4).set (o:=2) (by show 2<4;omega) _,?_,?_,?_,World.ownsRow_nil _ _ _ _,World.ownsRow_nil _ _ _ _,fun p hp=>absurd hp (by simp[Dy]),fun k e=>(nomatch e),fun k e=>(nomatch e),by show w.heap.size<=_;simp;omega⟩,q23 (aH q4 p4) _ (by omega),fun k e=>by
  rcases e with e|e|e|e
  ·replace e:k=B:=e;omega
  ·replace e:k=C:=e;omega
  ·replace e:k=F:=e;omega
  ·replace e:k=K:=e;omega,rfl,rfl,rfl,rfl,rfl⟩⟩
 ·have hC:OwnB (w4.setCell ⟨B,2,none⟩ (.slice (some ⟨K,0,none⟩) 1 kc)) C #[.slice none 0 0,.int .i64 0,.int .u64 0]:=uV (q3.call p4) (by omega);exact⟨0,0,Nat.le_refl _,hC.1.1,⟨hC.1.cell 0 rfl,hC.1.cell 1 rfl,hC.1.cell 2 rfl⟩,hC.2,fun i hi=>absurd hi (Nat.not_lt_zero _)⟩
 ·exact⟨zU.toList,jh (mZ q6 p4) _ (fun k e=>by have:=Option.some.inj e;replace this:F=k:=this;show k≠B;omega),rfl,rfl,fun _ _ _=>rfl⟩
 ·exact⟨Jd.toList,jh p5 _ (fun k e=>by have:=Option.some.inj e;replace this:K=k:=this;show k≠B;omega),rfl,rfl,rfl,rfl,fun o ho=>absurd ho (Nat.not_lt_zero _)⟩
abbrev nd0:ND×NA:=(gQ 0 0 0 aY aY,gJ aY aY)
theorem TQ:∀(l:List (ND×NA)) (i j:Nat),i<l.length->j<8->(yI l)[i*8+j]?=(dJ (l.getD i nd0).1 (l.getD i nd0).2)[j]?
 |[],i,j,h,_=>absurd h (by simp)
 |x :: l,0,j,_,hj=>by
  show(n8 x++yI l)[0*8+j]?=_;rw[List.getElem?_append_left (by simp[n8];omega)];rcases(show j=0\/j=1\/j=2\/j=3\/j=4\/j=5\/j=6\/j=7 by omega) with rfl|rfl|rfl|rfl|rfl|rfl|rfl|rfl<;>rfl
 |x :: l,i+1,j,h,hj=>by
  have ih:=TQ l i j (by simpa using h) hj;show(n8 x++yI l)[(i+1)*8+j]?=_;rw[List.getElem?_append_right (by simp[n8];omega),show(i+1)*8+j-(n8 x).length=i*8+j by simp[n8];omega,ih];rfl
structure LZ(I:bQ)(S:bJ)(g:Nat)(l:List (ND×NA))(u:World):Prop where
 f:lK I u (.slice S.va S.vl.length S.vc) (.slice (some ⟨g,0,none⟩) l.length S.nc)
 r:aP 8 0 u (some ⟨g,0,none⟩) l.length (fun i=>dJ (l.getD i nd0).1 (l.getD i nd0).2)
 v:u.ownsRow 0 9 1 (.slice S.va S.vl.length S.vc) S.vl.length S.vl
 x:∀p,p∈l->jQ 0 u p.2.ra p.1.rn p.1.r/\jQ 0 u p.2.ka p.1.kn p.1.c/\p.1.kn<=p.2.kc
 cap:l.length<=S.nc
 gb:bl I g/\g<u.heap.size
 xb:∀p,p∈l->∀k,aj p.2.ra=some k\/aj p.2.ka=some k->bl I k/\k<u.heap.size
 vb:∀k,aj S.va=some k->bl I k
theorem LB.lz{I:bQ}{S:bJ}{u:World}(h:LB I S u){l0:List (ND×NA)}{d:ND}{x:NA}(hl:S.l=l0++[(d,x)]):∃g,S.na=some ⟨g,0,none⟩/\bl I g/\g<u.heap.size/\u.cell? ⟨g,l0.length*8+1,none⟩=some (.int .i64 d.l)/\(∀o,u.frozen? ⟨g,o,none⟩=false)/\∀(v:Value),LZ I S g (l0++[({d with l:=1},x)]) ((u.setCell ⟨g,l0.length*8+1,none⟩ (.int .i64 1)).setCell ⟨I.B,2,none⟩ v):=by
 have hn:0<S.l.length:=by rw[hl];simp
 rcases h.r.2 with⟨_,e⟩|⟨g,c,cur,e,h1,h2,h3,h4,h5,h6⟩
 ·omega
 ·have e1:S.na=some ⟨g,0,none⟩:=by injection e
  have e2:S.nc=c:=by injection e
  have hgl:=(Array.getElem?_eq_some_iff.1 h2).1;have hcell:∀i j,i<S.l.length->j<8->u.cell? ⟨g,i*8+j,none⟩=(dJ (S.l.getD i nd0).1 (S.l.getD i nd0).2)[j]?:=fun i j hi hj=>by
   have hx:=TQ S.l i j hi hj;have hs:j<(dJ (S.l.getD i nd0).1 (S.l.getD i nd0).2).size:=hj;rw[Array.getElem?_eq_getElem hs] at hx ⊢;have:=h.r.cells (g:=g) (by rw[e1];rfl) (i*8+j) _ hx;generalize i*8+j=k at *
   cases k<;>simpa[Addr.add] using this
  have hi:=h.i;have hgb:bl I g:=h.rb g (by rw[e1];rfl);have hg0:Gx (fun k=>k=g\/k=I.B) u u:=Gx.refl _ _;refine⟨g,e1,hgb,hgl,?_,fun o=>by simp[World.frozen?,h2],fun v=>?_⟩
  ·have:=hcell l0.length 1 (by rw[hl];simp) (by omega);rw[hl] at this;simpa using this
  ·have g1:Gx (fun k=>k=g\/k=I.B) u ((u.setCell ⟨g,l0.length*8+1,none⟩ (.int .i64 1)).setCell ⟨I.B,2,none⟩ v):=((Gx.set u g (l0.length*8+1) (.int .i64 1)).mono (fun k e=>.inl e)).trans (Gx.set _ I.B 2 v) (fun _ _ e=>.inr e);have hll:(l0++[({d with l:=1},x)]).length=S.l.length:=by rw[hl];simp
   refine⟨?_,fun h0=>⟨g,0,rfl,Nat.zero_le _,by simpa using hgl,fun i hi' j hj=>?_⟩,?_,fun p hp=>?_,by rw[hll,e2];exact h3,⟨hgb,by simpa using hgl⟩,fun p hp k e=>?_,h.vb⟩
   ·rw[hll];have hf:=h.f;rw[e1] at hf;exact(hf.other hgb.f.symm).other hi.bf.symm
   ·rw[hll] at hi';have hne:I.B≠g:=hgb.b.symm;rw[show 0+i*8+j=i*8+j by omega];have e3:((u.setCell ⟨g,l0.length*8+1,none⟩ (.int .i64 1)).setCell ⟨I.B,2,none⟩ v).cell? ⟨g,i*8+j,none⟩=(u.setCell ⟨g,l0.length*8+1,none⟩ (.int .i64 1)).cell? ⟨g,i*8+j,none⟩:=World.cell?_setCell_far _ ⟨I.B,2,none⟩ ⟨g,i*8+j,none⟩ _ hne;rw[e3];have hO:OwnB u g cur:=⟨⟨hgl,fun o=>by simp[World.cell?,h2]⟩,fun o=>by simp[World.frozen?,h2]⟩;have hlt:l0.length*8+1<cur.size:=by
     rw[h5];have:l0.length+1<=c:=by rw[hl] at h3;simpa using h3
     omega
    have hS:=(hO.set (o:=l0.length*8+1) hlt (.int .i64 1)).1.2 (i*8+j);have hU:=hO.1.2 (i*8+j);rw[hS];by_cases c1:i=l0.length
    ·subst c1;by_cases c2:j=1
     ·subst c2;rw[Array.getElem?_setIfInBounds_self_of_lt hlt];simp
     ·rw[Array.getElem?_setIfInBounds_ne (by omega),<-hU,hcell _ _ hi' hj,hl];simp;rcases(show j=0\/j=2\/j=3\/j=4\/j=5\/j=6\/j=7 by omega) with rfl|rfl|rfl|rfl|rfl|rfl|rfl<;>rfl
    ·have hi2:i<l0.length:=by rw[hl] at hi';simp at hi';omega
     rw[Array.getElem?_setIfInBounds_ne (by omega),<-hU,hcell _ _ hi' hj,hl];simp[List.getElem?_append_left hi2]
   ·refine jS h.v fun k e=>g1.block k (q16 h.v ((dD _ _ _).symm.trans e)).2 (fun c=>?_);have e':=(dD _ _ _).symm.trans e;rcases c with c|c
    ·exact sQ h.v h.r (by decide) e' (by rw[e1,c];rfl)
    ·exact(h.vb _ e').b c
   ·have hq:∀{a:Option Addr} {n:Nat} {q:Nat->Int},dV I S u a n q->jQ 0 ((u.setCell ⟨g,l0.length*8+1,none⟩ (.int .i64 1)).setCell ⟨I.B,2,none⟩ v) a n q:=fun r=>(r.gx (S':=S) g1 (fun k e=>by
     rcases e with e|e
     ·exact .inr (.inl (by rw[e1,e];rfl))
     ·exact .inl (.inl e)) (fun _ _=>⟨fun e=>e,fun e=>e⟩)).1
    rcases List.mem_append.1 hp with hp|hp
    ·obtain⟨x1,x2,x3⟩:=h.x p (by rw[hl];exact List.mem_append.2 (.inl hp));exact⟨hq x1,hq x2,x3⟩
    ·obtain rfl:p=({d with l:=1},x):=by simpa using hp
     obtain⟨x1,x2,x3⟩:=h.x (d,x) (by rw[hl];simp);exact⟨hq x1,hq x2,x3⟩
   ·have hx:∃q,q∈S.l/\q.2=p.2:=by
     rcases List.mem_append.1 hp with hp|hp
     ·exact⟨p,by rw[hl];exact List.mem_append.2 (.inl hp),rfl⟩
     ·obtain rfl:p=({d with l:=1},x):=by simpa using hp
      exact⟨(d,x),by rw[hl];simp,rfl⟩
    obtain⟨q,hq,e9⟩:=hx;rw[<-e9] at e;obtain⟨x1,x2,_⟩:=h.x q hq;have fin:∀{a:Option Addr} {n:Nat} {f:Nat->Int},dV I S u a n f->aj a=some k->bl I k/\k<((u.setCell ⟨g,l0.length*8+1,none⟩ (.int .i64 1)).setCell ⟨I.B,2,none⟩ v).heap.size:=fun{a} {_} {_} r e=>by
     obtain⟨b,rfl⟩:∃b,a=some b:=by cases a with|none=>cases e|some b=>exact⟨b,rfl⟩
     obtain rfl:b.block=k:=Option.some.inj e;have:=r.2 b rfl;exact⟨this.1,by simpa using this.2.1⟩
    rcases e with e|e
    ·exact fin x1 e
    ·exact fin x2 e
structure BZ(I:bQ)(S:bJ)(u:World)(c:IL)(S':bJ)(g:Nat)(w':World):Prop where
 z:LZ I S' g (S.l++[(gQ 1 1 0 aY c,gJ aY c)]) w'
 b:OwnB w' I.B #[ptr I.C,.slice (some ⟨I.F,0,none⟩) I.nf I.fc,.slice (some ⟨I.K,0,none⟩) (I.nk-1) I.kc,.int .i64 S'.lf]
 cu:CU I.C none 0 0 S'.A w'
 kx:qH I w' S'.ln S'.sc
 vl:S'.vl=S.vl
 m:∀k,k<u.heap.size->(g=k->aj S.na=some k)/\(aj S'.va=some k->aj S.va=some k)
 g:Gx (fun k=>inb I k\/aj S.na=some k\/aj S.va=some k) u w'
theorem LZ.call{I:bQ}{S:bJ}{g:Nat}{l:List (ND×NA)}{u u':World}(h:LZ I S g l u)(hb:ah u u'):LZ I S g l u':=⟨h.f.block (hb.block _ h.f.cell.2.2.2),h.r.below hb,mZ h.v hb,fun p hp=>⟨aP.below (h.x p hp).1 hb,aP.below (h.x p hp).2.1 hb,(h.x p hp).2.2⟩,h.cap,⟨h.gb.1,Nat.lt_of_lt_of_le h.gb.2 hb.size⟩,fun p hp k e=>⟨(h.xb p hp k e).1,Nat.lt_of_lt_of_le (h.xb p hp k e).2 hb.size⟩,h.vb⟩
theorem Uj{u:World}{a:Option Addr}{n:Nat}{q:Nat->Int}{B:Nat}{v:Value}(h:jQ 0 u a n q)(hB:OwnB u B #[.slice none 0 0]):jQ 0 (u.setCell ⟨B,0,none⟩ v) a n q:=fun h0=>by
 obtain⟨b,off,e,h1,h2,h3⟩:=h h0;have hne:B≠b:=fun c=>by
  subst c;have h4:=h3 0 h0 0 (by omega);rw[hB.1.2 (off+0*1+0)] at h4;rcases(show off=0\/0<off by omega) with rfl|ho
  ·simp at h4
  ·rw[Array.getElem?_eq_none (by show 1<=off+0*1+0;omega)] at h4;simp at h4
 exact⟨b,off,e,h1,by simpa using h2,fun i hi j hj=>(World.cell?_setCell_far u ⟨B,0,none⟩ ⟨b,off+i*1+j,none⟩ v hne).trans (h3 i hi j hj)⟩
theorem LZ.set{I:bQ}{S:bJ}{g B:Nat}{l:List (ND×NA)}{u:World}{v:Value}(h:LZ I S g l u)(hB:OwnB u B #[.slice none 0 0])(h1:I.F≠B)(h2:g≠B)(h3:aj S.va≠some B):LZ I S g l (u.setCell ⟨B,0,none⟩ v):=⟨h.f.other h1,fun h0=>by
 obtain⟨b,off,e,q1,q2,q3⟩:=h.r h0
 cases e;exact⟨g,0,rfl,q1,by simpa using q2,fun i hi j hj=>(World.cell?_setCell_far u ⟨B,0,none⟩ ⟨g,0+i*8+j,none⟩ v (fun c=>h2 c.symm)).trans (q3 i hi j hj)⟩,jh h.v _ fun k e c=>h3 (by rw[<-c];exact(dD _ _ _).symm.trans e),fun p hp=>⟨Uj (h.x p hp).1 hB,Uj (h.x p hp).2.1 hB,(h.x p hp).2.2⟩,h.cap,by simpa using h.gb,fun p hp k e=>by simpa using h.xb p hp k e,h.vb⟩
theorem BZ.call{I:bQ}{S:bJ}{u:World}{c:IL}{S':bJ}{g:Nat}{w' w'':World}(h:BZ I S u c S' g w')(hb:ah w' w''):BZ I S u c S' g w'':=⟨h.z.call hb,h.b.call hb,h.cu.call hb,h.kx.block (hb.block _ h.kx.cell.2.2.2.1),h.vl,h.m,h.g.trans (Gx.below (fun _=>False) hb) (fun _ _ e=>e.elim)⟩
theorem X4(I:bQ)(S:bJ)(c:IL)(n:Nat)(u:World)(h:LB I S u)(hg:Gd S n)(hn:n<=590)(hc:dV I S u c.a c.n c.q)(hcc:c.n<=c.c):Calls Tryz.prog 28 #[ptr I.B,DF c] u fun e w'=>e=.returned (.tuple #[])/\∃S' g,BZ I S u c S' g w'/\Gd S' (n+1):=by
 have HL:Hid (LB I S u/\Gd S n/\dV I S u c.a c.n c.q):=⟨h,hg,hc⟩;have hkc:I.nk<=I.kc:=by
  obtain⟨L,h1,_⟩:=h.k;rcases h1.2 with⟨e,_⟩|⟨g',c',cur,e,_,_,h3,_⟩
  ·cases e
  ·cases e;exact h3
 clear h hg hc;go_in;go_wp2_with fail;have hst:=zG I S 1 aY c n u HL.1 HL.2.1 (by omega) (iM _ _ _) HL.2.2 hcc;refine hst.mono ?_;clear hst;rintro e w1 ⟨rfl,l,S1,hl1,hl2,ha,hg1⟩;have H1:Hid (Ad I S u (gQ 1 l 0 aY c) (gJ aY c) S1 w1):=ha;have HG:Hid (Gd S1 (n+1)):=hg1;clear ha hg1;go_wp2_with fail;refine(qb0 I S1 _ H1.lx.s).mono ?_;rintro e w2 ⟨rfl,hb2⟩;have H2:Hid (Lx I S u S1 w2):=H1.lx.trans (Lx.below H1.lx.s hb2);obtain⟨g,e1,hgN,hgl,hgc,hgz,hz⟩:=H2.s.lz H1.l;have HZ:Hid (∀v,LZ I S1 g (S.l++[({gQ 1 l 0 aY c with l:=1},gJ aY c)]) ((w2.setCell ⟨g,S.l.length*8+1,none⟩ (.int .i64 1)).setCell ⟨I.B,2,none⟩ v)):=hz;have hlen:S1.l.length=S.l.length+1:=by rw[H1.l];simp
 have f6:=H2.s.f.cell.2.1;rw[e1,hlen] at f6;have hI1:(0:Int)<=(S.l.length:Int):=by omega
 have hI2:(S.l.length:Int)<((S.l.length+1:Nat):Int):=by omega
 have b2:=H2.s.b.1.cell 2 rfl;have bz:=H2.s.b.2;have hbl:=H2.s.b.1.1;have hne:I.B≠g:=hgN.b.symm;have HE:Hid (S1.na=some ⟨g,0,none⟩):=e1;clear hz hb2 e1 hlen
 go_upto_region 2 with fail
 obtain⟨w3,hw3⟩:∃w3,w2.setCell ⟨g,S.l.length*8+1,none⟩ (.int .i64 1)=w3:=⟨_,rfl⟩;have H3:Hid (OwnB w3 I.B #[ptr I.C,.slice (some ⟨I.F,0,none⟩) I.nf I.fc,.slice (some ⟨I.K,0,none⟩) I.nk I.kc,.int .i64 S1.lf]/\Gx (fun k=>k=g) w2 w3/\qH I w3 S1.ln S1.sc):=by
  rw[<-hw3];exact⟨uV H2.s.b hne,Gx.set _ _ _ _,H2.s.k.other hgN.k.symm⟩
 rw[hw3] at HZ;rw[hw3];clear hw3 f6 b2 bz hbl hgc hgz;have b2:w3.cell? ⟨I.B,2,none⟩=some (.slice (some ⟨I.K,0,none⟩) I.nk I.kc):=H3.1.1.cell 2 rfl;have bz:=H3.1.2;have hbl:=H3.1.1.1;have hkk:=H2.s.i.hk;have hkm:=H2.s.i.m.2;have HF:Hid (BZ I S u c S1 g (w3.setCell ⟨I.B,2,none⟩ (.slice (some ⟨I.K,0,none⟩) (I.nk-1) I.kc))):=by
  have hE:=HE.out;have hx:=H2.out;refine⟨HZ.out _,H3.1.set (o:=2) (by show 2<4;omega) _,uQ (uQ H2.s.c H3.2.1 (fun e=>hgN.c e.symm)) (Gx.set w3 I.B 2 _) (fun e=>H2.s.i.bc e.symm),H3.2.2.other H2.s.i.bk.symm,H1.va.2.2,fun k hk=>⟨fun e=>(hx.m k hk).1 (by rw[hE,e];rfl),(hx.m k hk).2⟩,?_⟩;refine(hx.g.trans H3.2.1 (fun k hk e=>?_)).trans (Gx.set w3 I.B 2 _) (fun k _ e=>.inl (.inl e));exact .inr (.inl ((hx.m k hk).1 (by rw[hE,e];rfl)))
 obtain⟨m,hm⟩:∃m,I.nk=m:=⟨_,rfl⟩;rw[hm] at b2 HF hkk hkm hkc;obtain⟨y,hy⟩:∃y:Int,y=(m:Int)-1:=⟨_,rfl⟩;have hw:IntKind.i64.wrap ((m:Int)-1)=y:=by simp[IntKind.wrap,IntKind.bits,IntKind.signed];omega
 have hy0:0<=y:=by omega
 have hyk:y<=(I.kc:Int):=by omega
 have hyt:y.toNat=m-1:=by omega
 have hk0:I.kc≠0:=by omega
 clear hm hkc hy hkk hkm
 go_region_with fail
 all_goals go_end0
 all_goals first
  |exact⟨rfl,S1,g,HF.out,HG.out⟩
  |exact⟨rfl,S1,g,HF.call (iq (iw _)),HG.out⟩
theorem z73(I:bQ)(S:bJ)(c:IL)(n:Nat)(u:World)(h:LB I S u)(hg:Gd S n)(hn:n<=590)(hc:dV I S u c.a c.n c.q)(hcc:c.n<=c.c):Calls Tryz.prog 15 #[ptr I.B,DF c] u fun e w'=>e=.returned (.agg #[.slice (some ⟨I.F,0,none⟩) I.nf I.fc])/\∃S' g,LZ I S' g (S.l++[(gQ 1 1 0 aY c,gJ aY c)]) w'/\S'.vl=S.vl/\Gx (fun k=>inb I k\/aj S.na=some k\/aj S.va=some k) u w':=by
 have HS:Hid _:=X4 I S c n (u.alloc (.cells #[.slice none 0 0] 31)) (h.alloc _) hg hn (hc.call (q01 _ _)) hcc;have HL:Hid (LB I S u):=h;clear h hg hc;go_in;go_wp2_with fail;refine Calls.mono HS ?_;rintro e w2 ⟨rfl,S',g,hs,-⟩;have hO:OwnB w2 u.heap.size #[.slice none 0 0]:=hs.g.ownB (OwnB.new _ _ _) (fun e=>by
  rcases e with e|e|e
  ·exact Nat.lt_irrefl _ (HL.Dz e)
  ·exact Nat.lt_irrefl _ (q16 HL.r e).2
  ·exact Nat.lt_irrefl _ (q16 HL.v e).2)
 have r0:=hO.1.cell 0 rfl;have rz:=hO.2;have b1:w2.cell? ⟨I.B,1,none⟩=some (.slice (some ⟨I.F,0,none⟩) I.nf I.fc):=hs.b.1.cell 1 rfl;have H2:Hid (BZ I S (u.alloc (.cells #[.slice none 0 0] 31)) c S' g w2):=hs;have H3:Hid (OwnB w2 u.heap.size #[.slice none 0 0]):=hO;clear hs hO;go_wp2_with fail;have hs:=H2.out;have hL:=HL.out;have hlt:u.heap.size<(u.alloc (.cells #[.slice none 0 0] 31)).heap.size:=by simp
 refine bodyPost_ret (v:=.agg #[.slice (some ⟨I.F,0,none⟩) I.nf I.fc]) (by simp[results,Tryz.results15,go_sem,r0]) rfl ⟨rfl,S',g,?_,hs.vl,?_⟩
 ·exact hs.z.set H3.out (by have:=hL.lt.2.2.1;omega) (fun e=>Nat.lt_irrefl _ (q16 hL.r ((hs.m _ hlt).1 e)).2) (fun e=>Nat.lt_irrefl _ (q16 hL.v ((hs.m _ hlt).2 e)).2)
 ·exact((Gx.below (fun k=>inb I k\/aj S.na=some k\/aj S.va=some k) (q01 u _)).trans hs.g (fun _ _ e=>e)).trans (Gx.set w2 u.heap.size 0 _) (fun k hk e=>by omega)
end
end Go.Proofs.YtihnikeikhjndaaGreatDoor
