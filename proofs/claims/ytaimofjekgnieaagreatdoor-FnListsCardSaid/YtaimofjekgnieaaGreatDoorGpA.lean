import Derived.Test.YtaimofjekgnieaaGreatDoorGnW
import Derived.Test.YtaimofjekgnieaaGreatDoorGnO
import Derived.Test.YtaimofjekgnieaaGreatDoorGnU
import Derived.Deep.Cut
set_option maxRecDepth 100000
set_option maxHeartbeats 16000000
namespace Go.Proofs.YtaimofjekgnieaaGreatDoor
open Go.RowKit
attribute [local go_sem] q00
attribute [local go_sem ↓] Go.wp_at_zero Go.wp_at_succ
theorem zi8 (K:Nat) (u:World) (hg:EtP u):Calls Tryz.prog 290 #[.iface 184 (ptr K)] u fun e w'=>e=.returned (.string ⟨#[]⟩)/\Below u.heap.size u w':=by
 have b0:Below u.heap.size u ((u.alloc (.cells #[.pointer none] 118)).alloc (.cells #[.pointer none] 241)):=(q01 u _).alloc (by simp) _
 have HB0:Hid (Below u.heap.size u ((u.alloc (.cells #[.pointer none] 118)).alloc (.cells #[.pointer none] 241))):=b0
 have HG:Hid (EtP ((u.alloc (.cells #[.pointer none] 118)).alloc (.cells #[.pointer none] 241))):=hg.keep b0 (Nat.le_refl _)
 have h1:Hid (Has ((u.alloc (.cells #[.pointer none] 118)).alloc (.cells #[.pointer none] 241)) u.heap.size #[.pointer none]):=(Has.new u _ _).alloc _
 have h2:Hid (Has ((u.alloc (.cells #[.pointer none] 118)).alloc (.cells #[.pointer none] 241)) (u.heap.size+1) #[.pointer none]):=by
  have:=Has.new (u.alloc (.cells #[.pointer none] 118)) #[.pointer none] 241
  rw[World.size_alloc] at this
  exact this
 clear hg b0
 go_enter Tryz.func290,Tryz.ntmps290
 go_wp2_with fail
 refine (z40 ⟨K,0,none⟩ ⟨u.heap.size,0,none⟩ (.pointer none) _ HG.out (h1.out.cell 0 rfl)).mono ?_
 rintro e w1 ⟨rfl,hb⟩
 have HG1:Hid (EtP w1):=HG.out.keep hb (Nat.le_refl _)
 have H2:Hid (Has w1 (u.heap.size+1) #[.pointer none]):=h2.out.call hb
 have HB1:Hid (Below u.heap.size u w1):=HB0.out.trans (hb.mono (by simp;omega))
 clear hb
 go_wp2_with fail
 refine (z41 ⟨K,0,none⟩ ⟨u.heap.size+1,0,none⟩ (.pointer none) _ HG1.out (H2.out.cell 0 rfl)).mono ?_
 rintro e w2 ⟨rfl,hb⟩
 have HB2:Hid (Below u.heap.size u w2):=HB1.out.trans (hb.mono HB1.out.size)
 clear hb
 go_wp2_with fail
 go_ret
 exact ⟨rfl,HB2.out⟩
structure Tr (X:RX) (d:MD) (u:World) (X':RX) (d':MD) (u':World):Prop where
 g:Gx (stB X d) u u'
 mv:∀ k,k<u.heap.size->stB X' d' k->stB X d k
theorem Tr.trans {X X' X'':RX} {d d' d'':MD} {u u' u'':World} (h:Tr X d u X' d' u') (k:Tr X' d' u' X'' d'' u''):Tr X d u X'' d'' u'':=
 ⟨h.g.trans k.g (fun i hi e=>h.mv i hi e),fun i hi e=>h.mv i hi (k.mv i (Nat.lt_of_lt_of_le hi h.g.size) e)⟩
theorem Sp.tr {X:RX} {d d':MD} {u u':World} (h:Sp X d u d' u'):Tr X d u X d' u':=⟨h.g,h.mv⟩
section
variable {X X':RX} {d d':MD} {u u':World}
theorem Bx.tr {B:Nat} {A:Array Value} (h:Bx X d u B A) (t:Tr X d u X' d' u'):Bx X' d' u' B A:=⟨t.g.has h.1 h.2,fun e=>h.2 (t.mv _ h.1.1 e)⟩
theorem BxO.tr {B:Nat} {A:Array Value} (h:BxO X d u B A) (t:Tr X d u X' d' u'):BxO X' d' u' B A:=⟨t.g.ownB h.1 h.2,fun e=>h.2 (t.mv _ h.1.1.1 e)⟩
theorem FnHas.tr {fn:Int} {C B:Nat} (h:FnHas X d u fn C B) (t:Tr X d u X' d' u'):FnHas X' d' u' fn C B:=
 ⟨h.1.tr t,(World.cell?_of_block (a:=⟨B,0,none⟩) (t.g.block B h.2.2.1 h.2.2.2)).trans h.2.1,Nat.lt_of_lt_of_le h.2.2.1 t.g.size,fun e=>h.2.2.2 (t.mv _ h.2.2.1 e)⟩
theorem Lst.tr {a:Option Addr} {l:List VD} (h:Lst u a l) (hn:∀ ad,a=some ad->l≠[]->¬stB X d ad.block) (k:Tr X d u X' d' u'):Lst u' a l/\∀ ad,a=some ad->l≠[]->¬stB X' d' ad.block:=by
 refine ⟨fun hl=>?_,fun ad e hl c=>?_⟩
 ·obtain ⟨ad,e,h1,h2⟩:=h hl
  exact ⟨ad,e,Nat.lt_of_lt_of_le h1 k.g.size,fun j v hv=>(World.cell?_of_block (a:=ad.add j) (by rw[zd2];exact k.g.block _ h1 (hn ad e hl))).trans (h2 j v hv)⟩
 ·obtain ⟨ad',e',h1,_⟩:=h hl
  rw[e] at e'
  cases e'
  exact hn ad e hl (k.mv _ h1 c)
theorem Opened.tr {fn:Int} {rest:Value} {nv F V fc:Nat} {fa:Option Addr} (o:Opened X d u fn rest nv F V fa fc u'):Tr X d u (xO X F V fn rest nv) (dO d F nv fa fc) u':=by
 refine ⟨o.g.mono (fun k e=>?_),fun k hk c=>?_⟩
 ·rcases e with e|e
  ·exact .inr (.inl e)
  ·exact .inr (.inr (.inr (.inr (.inr (.inr (.inr e))))))
 ·have hF:=o.F
  have hV:=o.V
  rcases c with c|c|c|c|c|c|c|c
  ·exact .inl c
  ·exact .inr (.inl c)
  ·have:k=F:=c
   omega
  ·have:k=V:=c
   omega
  ·exact .inr (.inr (.inr (.inr (.inl c))))
  ·exact .inr (.inr (.inr (.inr (.inr (.inl c)))))
  ·cases c
  ·exact .inr (.inr (.inr (.inr (.inr (.inr (.inr (o.fa k hk c)))))))
theorem St.reF (h:St X d u) (g:Gx (fun k=>k=X.F) u u') (c:VD) (v:Value) (hf:OwnB u' X.F (fA {X with cal:=c,ups:=v} d)) (hT:BkT u' X.F 168):St {X with cal:=c,ups:=v} d u':=by
 have hx:=h.ty
 have hro:∀ {t':TypeId} {N K m q c:Nat} {xs:List Value} {a:Option Addr},t'≠168->u.ownsRow N t' K (.slice a m c) q xs->u'.ownsRow N t' K (.slice a m c) q xs:=fun ht hh=>q14 hh fun k e=>g.block k (hh.lt k e).2 ((q34 hh ((q08 _ _ _).symm.trans e)).ne hx.f ht)
 exact ⟨⟨h.x.m,h.x.t,h.x.f,h.x.v,h.x.nW,h.x.f0,h.x.f2,h.x.kt,h.x.kd,h.x.kc⟩,g.ownB h.m (Ne.symm hx.fm),g.ownB h.t hx.tf,hf,g.ownB h.v (Ne.symm hx.fv),hro (by decide) h.fw,hro (by decide) h.rr,hro (by decide) h.hr,hro (by decide) h.sr,h.k.trans g (fun k _ e=>.inr (e ▸ h.x.f)),Nat.le_trans h.n g.size,h.nv,⟨hx.m.keep (g.block _ hx.m.lt (Ne.symm hx.fm)),hx.t.keep (g.block _ hx.t.lt hx.tf),hT,hx.v.keep (g.block _ hx.v.lt (Ne.symm hx.fv))⟩,h.r0⟩
theorem Tr.reF (g:Gx (fun k=>k=X.F) u u') (c:VD) (v:Value):Tr X d u {X with cal:=c,ups:=v} d u':=⟨g.mono (fun _ e=>.inr (.inr (.inl e))),fun _ _ e=>e⟩
theorem ParF.gx {X2:RX} (h:ParF X d X2 d' u) {X3:RX} {d3:MD} (t:Tr X2 d' u X3 d3 u'):ParF X d X3 d3 u':=⟨h.1.gx t.g h.2,fun i e c=>h.2 i e (t.mv i (h.1.lt e) c)⟩
end
structure UG (X:RX) (fn nf ub uo uc nv vc:Nat) (va:Option Addr) (nm:ByteArray) (fL:Int) (a5 a6:Value):Prop where
 u:UF X fn nf ub uo uc nv vc va
 n0:X.W.cell? ⟨ub,uo+fn*7,none⟩=some (.string nm)
 n1:X.W.cell? ⟨ub,uo+fn*7+1,none⟩=some (.int .i64 fL)
 n5:X.W.cell? ⟨ub,uo+fn*7+5,none⟩=some a5
 n6:X.W.cell? ⟨ub,uo+fn*7+6,none⟩=some a6
def EtX (X:RX):Prop:=EtP X.W/\0≠X.M
theorem EtX.at {X:RX} {d:MD} {u:World} (h:EtX X) (s:St X d u):EtP u:=(World.cell?_of_block (a:=⟨0,0,none⟩) (s.k.block 0 h.1.lt (fun e=>by
 rcases e with e|e
 ·exact h.2 e
 ·have h1:0<X.W.heap.size:=h.1.lt
  have h2:X.W.heap.size<=0:=e
  omega))).trans h.1
def DP.plus (p:DP) (rs:List RcD) (t:Nat):DP:={p with recs:=p.recs++rs,ti:=p.ti+t}
theorem DP.plus_plus (p:DP) (a b:List RcD) (s t:Nat):(p.plus a s).plus b t=p.plus (a++b) (s+t):=by simp[DP.plus,Nat.add_assoc]
theorem DP.rcd_plus (p:DP) (x:RcD):p.rcd x=p.plus [x] 0:=by simp[DP.plus,DP.rcd]
theorem DP.tick_plus (p:DP):p.tick=p.plus [] 1:=by simp[DP.plus,DP.tick]
abbrev xC (X:RX) (F V:Nat) (fn:Int) (rest:Value) (nv:Nat):RX:={xO X F V fn rest nv with cal:=fnD,ups:=.slice none 0 0}
structure Op (X:RX) (d:MD) (u:World) (X':RX) (d':MD) (w:World) (fn:Int) (C B b3 b4 b7 b8 F:Nat):Prop where
 t:Tr X d u X' d' w
 s:St X' d' w
 p:ParF X d X' d' w
 f:FnHas X' d' w fn C B
 x3:Bx X' d' w b3 #[ptr X.M]
 x4:Bx X' d' w b4 (vA fnD)
 x7:Bx X' d' w b7 #[ptr C]
 x8:Bx X' d' w b8 #[ptr F]
theorem Op.step {X:RX} {d:MD} {u:World} {X':RX} {d' d2:MD} {w w2:World} {fn:Int} {C B b3 b4 b7 b8 F:Nat} (h:Op X d u X' d' w fn C B b3 b4 b7 b8 F) (k:Sp X' d' w d2 w2):Op X d u X' d2 w2 fn C B b3 b4 b7 b8 F:=
 ⟨h.t.trans k.tr,k.s,h.p.step k,h.f.step k,h.x3.step k,h.x4.step k,h.x7.step k,h.x8.step k⟩
abbrev OpA (X:RX) (d:MD) (u w:World) (fn:Int) (C B b3 b4 b7:Nat):Prop:=Sp X d u d w/\Bx X d w b3 #[ptr X.M]/\Bx X d w b4 (vA fnD)/\u.heap.size<=b3/\u.heap.size<=b4/\FnHas X d w fn C B/\Bx X d w b7 #[ptr C]/\u.heap.size<=b7
theorem St.beside {X:RX} {d:MD} {u u':World} {g:Nat} (h:St X d u) (hg:Gx (fun k=>k=g) u u') (hW:X.W.heap.size<=g) (hn:¬stB X d g):St X d u':=by
 have nM:X.M≠g:=fun e=>hn (.inl e.symm)
 have nT:X.T≠g:=fun e=>hn (.inr (.inl e.symm))
 have nF:X.F≠g:=fun e=>hn (.inr (.inr (.inl e.symm)))
 have nV:X.V≠g:=fun e=>hn (.inr (.inr (.inr (.inl e.symm))))
 have hro:∀ {t':TypeId} {N K m q c:Nat} {xs:List Value} {a:Option Addr},bkOf a≠some g->u.ownsRow N t' K (.slice a m c) q xs->u'.ownsRow N t' K (.slice a m c) q xs:=fun ha hh=>q14 hh fun k e=>hg.block k (hh.lt k e).2 (fun c=>ha (c ▸ (q08 _ _ _).symm.trans e))
 exact ⟨h.x,hg.ownB h.m nM,hg.ownB h.t nT,hg.ownB h.f nF,hg.ownB h.v nV,hro (fun e=>hn (.inr (.inr (.inr (.inr (.inr (.inr (.inr e)))))))) h.fw,hro (fun e=>hn (.inr (.inr (.inr (.inr (.inl e)))))) h.rr,hro (fun e=>hn (.inr (.inr (.inr (.inr (.inr (.inl e))))))) h.hr,hro (fun e=>hn (.inr (.inr (.inr (.inr (.inr (.inr (.inl e)))))))) h.sr,h.k.trans hg (fun k _ e=>.inr (by rw[show k=g from e];exact hW)),Nat.le_trans h.n hg.size,h.nv,h.ty.keep (fun k e=>hg.block k (by
  rcases e with rfl|rfl|rfl|rfl
  ·exact h.m.1.1
  ·exact h.t.1.1
  ·exact h.f.1.1
  ·exact h.v.1.1) (by
  rcases e with rfl|rfl|rfl|rfl
  ·exact nM
  ·exact nT
  ·exact nF
  ·exact nV)),h.r0⟩
theorem q52 {X:RX} {d:MD} {u w wA w':World} {fn:Int} {C B b3 b4 b7 nv F V fc:Nat} {rest:Value} {fa:Option Addr} (h:OpA X d u w fn C B b3 b4 b7) (kA:Sp X d w d wA) (o:Opened X d wA fn rest nv F V fa fc w'):∀ w2:World,(∀ k,k<w.heap.size->w2.heap[k]?=w'.heap[k]?)->w2.cell? ⟨b3,0,none⟩=some (ptr X.M)/\w2.cell? ⟨b7,0,none⟩=some (ptr C)/\w2.cell? ⟨C,0,none⟩=some (.int .i64 fn):=fun _ k=>
 have t:=kA.tr.trans o.tr
 ⟨(World.cell?_of_block (a:=⟨b3,0,none⟩) (k b3 h.2.1.1.1)).trans ((h.2.1.tr t).cell 0 rfl),(World.cell?_of_block (a:=⟨b7,0,none⟩) (k b7 h.2.2.2.2.2.2.1.1.1)).trans ((h.2.2.2.2.2.2.1.tr t).cell 0 rfl),(World.cell?_of_block (a:=⟨C,0,none⟩) (k C h.2.2.2.2.2.1.1.1.1)).trans ((h.2.2.2.2.2.1.tr t).1.cell 0 rfl)⟩
theorem Op.mk0 {X:RX} {d:MD} {u w wA w':World} {fn:Int} {C B b3 b4 b7 nv F V fc:Nat} {rest:Value} {fa:Option Addr} (h:OpA X d u w fn C B b3 b4 b7) (kA:Sp X d w d wA) (o:Opened X d wA fn rest nv F V fa fc w'):Op X d u (xO X F V fn rest nv) (dO d F nv fa fc) (w'.alloc (.cells #[ptr F] 125)) fn C B b3 b4 b7 w'.heap.size F/\u.heap.size<=w'.heap.size:=
 have t:=kA.tr.trans o.tr
 have k:Sp (xO X F V fn rest nv) (dO d F nv fa fc) w' (dO d F nv fa fc) (w'.alloc (.cells #[ptr F] 125)):=(Sp.refl o.s).alloc _
 ⟨⟨(h.1.tr.trans t).trans k.tr,k.s,(Opened.par kA.s o).step k,(h.2.2.2.2.2.1.tr t).step k,(h.2.1.tr t).step k,(h.2.2.1.tr t).step k,(h.2.2.2.2.2.2.1.tr t).step k,Bx.new o.s _ _⟩,(h.1.tr.trans t).g.size⟩
theorem Op.mk1 {X:RX} {d:MD} {u w wA w':World} {fn:Int} {C B b3 b4 b7 nv F V fc:Nat} {rest:Value} {fa:Option Addr} (h:OpA X d u w fn C B b3 b4 b7) (kA:Sp X d w d wA) (hb:BxO X d wA w.heap.size #[.pointer none]) (o:Opened X d wA fn rest nv F V fa fc w'):Op X d u (xO X F V fn rest nv) (dO d F nv fa fc) (w'.setCell ⟨w.heap.size,0,none⟩ (ptr F)) fn C B b3 b4 b7 w.heap.size F/\u.heap.size<=w.heap.size:=by
 have t:=kA.tr.trans o.tr
 have hb':=hb.tr o.tr
 have g:=Gx.set w' w.heap.size 0 (ptr F)
 have lt3:=h.2.1.1.1
 have lt4:=h.2.2.1.1.1
 have lt7:=h.2.2.2.2.2.2.1.1.1
 have ltC:=h.2.2.2.2.2.1.1.1.1
 have ltB:=h.2.2.2.2.2.1.2.2.1
 have hs:=o.s.beside g (Nat.le_trans h.1.s.k.size (Nat.le_refl _)) hb'.2
 have hk:∀ {Q:Nat} {A:Array Value},Bx X d w Q A->Bx (xO X F V fn rest nv) (dO d F nv fa fc) (w'.setCell ⟨w.heap.size,0,none⟩ (ptr F)) Q A:=fun b=>⟨g.has (b.tr t).1 (by have:=b.1.1;omega),(b.tr t).2⟩
 have hp:=Opened.par kA.s o
 have hP:=h.1.s.par
 have lw:∀ {k:Nat},(k=X.F\/k=X.V\/bkOf d.sa=some k)->k<w.heap.size:=fun e=>hP.lt e
 refine ⟨⟨⟨(h.1.tr.trans t).g.trans g (fun k hk' e=>by have:=h.1.g.size;omega),(h.1.tr.trans t).mv⟩,hs,⟨hp.1.gx g (fun k e=>by have:=lw e;omega),hp.2⟩,⟨hk h.2.2.2.2.2.1.1,?_,?_,(h.2.2.2.2.2.1.tr t).2.2.2⟩,hk h.2.1,hk h.2.2.1,hk h.2.2.2.2.2.2.1,?_⟩,h.1.g.size⟩
 ·exact (World.cell?_of_block (a:=⟨B,0,none⟩) (g.block B (h.2.2.2.2.2.1.tr t).2.2.1 (by omega))).trans (h.2.2.2.2.2.1.tr t).2.1
 ·exact Nat.lt_of_lt_of_le (h.2.2.2.2.2.1.tr t).2.2.1 g.size
 ·exact ⟨(hb'.1.set (o:=0) (by show 0<1;omega) (ptr F)).1,hb'.2⟩
theorem GxS.set {F:Nat} {w w':World} (h:Gx (fun k=>k=F) w w') (o:Nat) (v:Value):Gx (fun k=>k=F) w (w'.setCell ⟨F,o,none⟩ v):=h.trans (Gx.set _ _ _ _) (fun _ _ e=>e)
theorem GxS.drew {F:Nat} {w w':World} (h:Gx (fun k=>k=F) w w'):Gx (fun k=>k=F) w w'.drew:=h.trans (Gx.below _ (Below.refl _ _).drew) (fun _ _ (e:_=F)=>e)
theorem z68 {X:RX} {d:MD} {u:World} {X':RX} {d':MD} {w w':World} {fn:Int} {C B b3 b4 b7 b8:Nat} (h:Op X d u X' d' w fn C B b3 b4 b7 b8 X'.F) (g:Gx (fun k=>k=X'.F) w w'):w'.cell? ⟨b8,0,none⟩=some (ptr X'.F)/\w'.cell? ⟨b7,0,none⟩=some (ptr C)/\w'.cell? ⟨C,1,none⟩=some (.slice none 0 0)/\w'.cell? ⟨b4,0,none⟩=some (.int .i64 6)/\w'.cell? ⟨b4,1,none⟩=some (.int .i64 0)/\w'.cell? ⟨b4,2,none⟩=some (.float .f64 0)/\w'.cell? ⟨b4,3,none⟩=some (.string ⟨#[]⟩)/\w'.cell? ⟨b4,4,none⟩=some (.int .i64 0):=
 have hk:∀ {Q:Nat} {A:Array Value},Bx X' d' w Q A->Has w' Q A:=fun b=>g.has b.1 (fun e=>b.2 (.inr (.inr (.inl e))))
 ⟨(hk h.x8).cell 0 rfl,(hk h.x7).cell 0 rfl,(hk h.f.1).cell 1 rfl,(hk h.x4).cell 0 rfl,(hk h.x4).cell 1 rfl,(hk h.x4).cell 2 rfl,(hk h.x4).cell 3 rfl,(hk h.x4).cell 4 rfl⟩
theorem Op.reF {X:RX} {d:MD} {u:World} {X':RX} {d':MD} {w w':World} {fn:Int} {C B b3 b4 b7 b8:Nat} (h:Op X d u X' d' w fn C B b3 b4 b7 b8 X'.F) (g:Gx (fun k=>k=X'.F) w w') (c:VD) (v:Value) (hf:OwnB w' X'.F (fA {X' with cal:=c,ups:=v} d')) (hT:BkT w' X'.F 168):Op X d u {X' with cal:=c,ups:=v} d' w' fn C B b3 b4 b7 b8 X'.F:=
 have t:Tr X' d' w {X' with cal:=c,ups:=v} d' w':=Tr.reF g c v
 ⟨h.t.trans t,h.s.reF g c v hf hT,h.p.gx t,h.f.tr t,h.x3.tr t,h.x4.tr t,h.x7.tr t,h.x8.tr t⟩
structure GOT (F:Nat) (t:TypeId) (w:World) (A:Array Value) (w':World):Prop where
 g:Gx (fun k=>k=F) w w'
 o:OwnB w' F A
 t:BkT w' F t
theorem GOT.set {F:Nat} {t:TypeId} {w w':World} {A:Array Value} (h:GOT F t w A w') (o:Nat) (v:Value) (ho:o<A.size):GOT F t w (A.setIfInBounds o v) (w'.setCell ⟨F,o,none⟩ v):=⟨GxS.set h.g o v,h.o.set (o:=o) ho v,h.t.set _ _⟩
theorem GOT.drew {F:Nat} {t:TypeId} {w w':World} {A:Array Value} (h:GOT F t w A w'):GOT F t w A w'.drew:=⟨GxS.drew h.g,h.o.block (Nat.le_refl _) rfl,h.t.keep rfl⟩
theorem Op.called0 {F:Nat} {t:TypeId} {w:World} {A A':Array Value} (h:OwnB w F A) (ht:BkT w F t) (hs:A.size=13) (e:((((((A.setIfInBounds 2 (.int .i64 6)).setIfInBounds 3 (.int .i64 0)).setIfInBounds 4 (.float .f64 0)).setIfInBounds 5 (.string ⟨#[]⟩)).setIfInBounds 6 (.int .i64 0)).setIfInBounds 7 (.slice none 0 0))=A'):GOT F t w A' (((((((w.setCell ⟨F,2,none⟩ (.int .i64 6)).setCell ⟨F,3,none⟩ (.int .i64 0)).setCell ⟨F,4,none⟩ (.float .f64 0)).setCell ⟨F,5,none⟩ (.string ⟨#[]⟩)).setCell ⟨F,6,none⟩ (.int .i64 0)).setCell ⟨F,7,none⟩ (.slice none 0 0)).drew):=by
 rw[<-e]
 have h0:GOT F t w A w:=⟨Gx.refl _ _,h,ht⟩
 have h1:=h0.set 2 (.int .i64 6) (by omega)
 have h2:=h1.set 3 (.int .i64 0) (by simp;omega)
 have h3:=h2.set 4 (.float .f64 0) (by simp;omega)
 have h4:=h3.set 5 (.string ⟨#[]⟩) (by simp;omega)
 have h5:=h4.set 6 (.int .i64 0) (by simp;omega)
 exact (h5.set 7 (.slice none 0 0) (by simp;omega)).drew
theorem y05 (X:RX) (d:MD) (F V:Nat) (fn:Int) (rest:Value) (nv fc:Nat) (fa:Option Addr):((((((fA (xO X F V fn rest nv) (dO d F nv fa fc)).setIfInBounds 2 (.int .i64 6)).setIfInBounds 3 (.int .i64 0)).setIfInBounds 4 (.float .f64 0)).setIfInBounds 5 (.string ⟨#[]⟩)).setIfInBounds 6 (.int .i64 0)).setIfInBounds 7 (.slice none 0 0)=fA (xC X F V fn rest nv) (dO d F nv fa fc):=by
 simp[fA]
theorem Op.called {X:RX} {d:MD} {u w:World} {fn:Int} {C B b3 b4 b7 b8 nv F V fc:Nat} {rest:Value} {fa:Option Addr} (h:Op X d u (xO X F V fn rest nv) (dO d F nv fa fc) w fn C B b3 b4 b7 b8 F):Op X d u (xC X F V fn rest nv) (dO d F nv fa fc) (((((((w.setCell ⟨F,2,none⟩ (.int .i64 6)).setCell ⟨F,3,none⟩ (.int .i64 0)).setCell ⟨F,4,none⟩ (.float .f64 0)).setCell ⟨F,5,none⟩ (.string ⟨#[]⟩)).setCell ⟨F,6,none⟩ (.int .i64 0)).setCell ⟨F,7,none⟩ (.slice none 0 0)).drew) fn C B b3 b4 b7 b8 F:=by
 have hg:=Op.called0 h.s.f h.s.ty.f rfl (y05 X d F V fn rest nv fc fa)
 generalize ((((((w.setCell ⟨F,2,none⟩ (.int .i64 6)).setCell ⟨F,3,none⟩ (.int .i64 0)).setCell ⟨F,4,none⟩ (.float .f64 0)).setCell ⟨F,5,none⟩ (.string ⟨#[]⟩)).setCell ⟨F,6,none⟩ (.int .i64 0)).setCell ⟨F,7,none⟩ (.slice none 0 0)).drew=W at hg ⊢
 exact h.reF hg.g fnD (.slice none 0 0) hg.o hg.t
abbrev fn7 (nm:ByteArray) (fL:Int) (va:Option Addr) (nv vc:Nat) (a5 a6:Value):Array Value:=#[.string nm,.int .i64 fL,.int .i64 0,.bool true,.slice va nv vc,a5,a6]
theorem z69 {X:RX} {d:MD} {u:World} {X':RX} {d':MD} {w w':World} {C B b3 b4 b7 b8 F fn nf ub uo uc nv vc:Nat} {va:Option Addr} {nm:ByteArray} {fL:Int} {a5 a6:Value} (hU:UG X fn nf ub uo uc nv vc va nm fL a5 a6) (hM:X'.M=X.M) (hW:X'.W=X.W) (hf:X'.fns=X.fns) (h:Op X d u X' d' w (fn:Int) C B b3 b4 b7 b8 F) (k:Sp X' d' w d' w'):w'.cell? ⟨b3,0,none⟩=some (ptr X.M)/\w'.cell? ⟨X.M,0,none⟩=some (.slice (some ⟨ub,uo,none⟩) nf uc)/\w'.cell? ⟨b7,0,none⟩=some (ptr C)/\w'.cell? ⟨C,0,none⟩=some (.int .i64 (fn:Int))/\w'.cell? ⟨ub,uo+fn*7,none⟩=some (.string nm)/\w'.cell? ⟨ub,uo+fn*7+1,none⟩=some (.int .i64 fL)/\w'.cell? ⟨ub,uo+fn*7+2,none⟩=some (.int .i64 0)/\w'.cell? ⟨ub,uo+fn*7+3,none⟩=some (.bool true)/\w'.cell? ⟨ub,uo+fn*7+4,none⟩=some (.slice va nv vc)/\w'.cell? ⟨ub,uo+fn*7+5,none⟩=some a5/\w'.cell? ⟨ub,uo+fn*7+6,none⟩=some a6:=by
 have hu:∀ o,w'.cell? ⟨ub,o,none⟩=X.W.cell? ⟨ub,o,none⟩:=fun o=>by
  rw[<-hW]
  exact World.cell?_of_block (a:=⟨ub,o,none⟩) (k.s.k.block ub (by rw[hW];exact hU.u.lt) (fun e=>by
   rcases e with e|e
   ·exact hU.u.ne (by rw[<-hM];exact e)
   ·have h1:=hU.u.lt
    rw[hW] at e
    have h2:X.W.heap.size<=ub:=e
    omega))
 have m0:w'.cell? ⟨X.M,0,none⟩=some (.slice (some ⟨ub,uo,none⟩) nf uc):=by
  rw[<-hU.u.f,<-hf,<-hM]
  exact k.s.m.1.cell 0 rfl
 exact ⟨(h.x3.step k).cell 0 rfl,m0,(h.x7.step k).cell 0 rfl,(h.f.step k).1.cell 0 rfl,(hu _).trans hU.n0,(hu _).trans hU.n1,(hu _).trans hU.u.p,(hu _).trans hU.u.r,(hu _).trans hU.u.v,(hu _).trans hU.n5,(hu _).trans hU.n6⟩
theorem ye1 {X X':RX} {d d':MD} {u w w':World} {g:Nat} {l:List VD} (t:Tr X d u X' d' w) (hs:SameRun X X') (h:St X (dBk d d') w') (gx:Gx (fun k=>k=X.T) w w') (hb:Bl X' d' w g l) (hg:u.heap.size<=g) (h0:St X d u):Sp X d u (dBk d d') w'/\Bl X (dBk d d') w' g l:=by
 have hT:X'.T=X.T:=hs.T
 have hM:X'.M=X.M:=hs.M
 refine ⟨⟨h,t.g.trans gx (fun k _ e=>.inr (.inl e)),fun k hk e=>?_⟩,⟨⟨Nat.lt_of_lt_of_le hb.1.1 gx.size,fun j v hv=>?_⟩,fun e=>?_⟩⟩
 ·rcases e with e|e|e|e|e|e|e|e
  ·exact .inl e
  ·exact .inr (.inl e)
  ·exact .inr (.inr (.inl e))
  ·exact .inr (.inr (.inr (.inl e)))
  ·exact t.mv k hk (.inr (.inr (.inr (.inr (.inl e)))))
  ·exact t.mv k hk (.inr (.inr (.inr (.inr (.inr (.inl e))))))
  ·exact .inr (.inr (.inr (.inr (.inr (.inr (.inl e))))))
  ·exact t.mv k hk (.inr (.inr (.inr (.inr (.inr (.inr (.inr e)))))))
 ·exact (World.cell?_of_block (a:=⟨g,j,none⟩) (gx.block g hb.1.1 (fun e=>hb.2 (.inr (.inl (by rw[hT];exact e)))))).trans (hb.1.2 j v hv)
 ·have hlt:∀ {k:Nat},stB X d k->k<u.heap.size:=fun e=>h0.lt e
  rcases e with e|e|e|e|e|e|e|e
  ·exact hb.2 (.inl (by rw[hM];exact e))
  ·exact hb.2 (.inr (.inl (by rw[hT];exact e)))
  ·have:=hlt (k:=g) (.inr (.inr (.inl e)))
   omega
  ·have:=hlt (k:=g) (.inr (.inr (.inr (.inl e))))
   omega
  ·exact hb.2 (.inr (.inr (.inr (.inr (.inl e)))))
  ·exact hb.2 (.inr (.inr (.inr (.inr (.inr (.inl e))))))
  ·have:=hlt (k:=g) (.inr (.inr (.inr (.inr (.inr (.inr (.inl e)))))))
   omega
  ·exact hb.2 (.inr (.inr (.inr (.inr (.inr (.inr (.inr e)))))))
theorem SameRun.xC (X:RX) (F V:Nat) (fn:Int) (rest:Value) (nv:Nat):SameRun X (xC X F V fn rest nv):=⟨rfl,rfl,rfl,rfl,rfl,rfl,rfl,rfl,rfl,rfl,rfl,rfl,rfl,rfl,rfl⟩
theorem RetTo.wayOk (X:RX) (N:Nat) (l:List VD) (q:DP):qs8 (RetTo X N l q):=fun way d' w' h=>by
 obtain ⟨K,g,c,h1,_⟩:=h
 exact .inr ⟨K,h1⟩
theorem RetTo.farOk (X:RX) (N:Nat) (l:List VD) (q:DP):z47 N (RetTo X N l q):=fun _ _ _ _ _ h g hB=>h.far g hB
theorem Bl.call {X:RX} {d:MD} {u u':World} {g:Nat} {l:List VD} (h:Bl X d u g l) (hb:Below u.heap.size u u'):Bl X d u' g l:=⟨⟨Nat.lt_of_lt_of_le h.1.1 hb.size,fun j v hv=>(World.cell?_of_block (a:=⟨g,j,none⟩) (hb.block g h.1.1)).trans (h.1.2 j v hv)⟩,h.2⟩
theorem Bl.lst {X:RX} {d:MD} {u:World} {g:Nat} {l:List VD} (h:Bl X d u g l):Lst u (some ⟨g,0,none⟩) l:=fun _=>⟨_,rfl,h.1.1,fun j v hv=>by
 have:=h.1.2 j v hv
 cases j<;>simpa[Addr.add] using this⟩
theorem yq8 {d d5:MD} {F nv fc:Nat} {fa:Option Addr} {rs:List RcD} {t:Nat} (e:d5.p=(dO d F nv fa fc).p.plus rs t):(dBk d d5).p=d.p.plus rs t:=by
 have h1:d5.recs=d.recs++rs:=congrArg DP.recs e
 have h2:d5.ti=d.ti+t:=congrArg DP.ti e
 have h3:d5.held=d.held:=congrArg DP.held e
 have h4:d5.tab=d.tab:=congrArg DP.tab e
 have h5:d5.liv=d.liv:=congrArg DP.liv e
 have h6:d5.mad=d.mad:=congrArg DP.mad e
 have h7:d5.sin=d.sin:=congrArg DP.sin e
 have h8:d5.cls=d.cls:=congrArg DP.cls e
 simp[MD.p,DP.plus,h1,h2,h3,h4,h5,h6,h7,h8]
theorem zp0 (X:RX) (d:MD) (fn nf ub uo uc nv vc bo bc k1 C B cc ac tt:Nat) (va aa:Option Addr) (nm:ByteArray) (fL:Int) (p1 q1:Option Addr) (p2 p3 q2 q3:Nat) (lr l:List VD) (rs:List RcD) (u:World) (h:St X d u) (hE:EtX X) (hU:UG X fn nf ub uo uc nv vc va nm fL (.slice p1 p2 p3) (.slice q1 q2 q3)) (hfn:FnHas X d u (fn:Int) C B) (hcls:d.cls=.slice (some ⟨B,0,none⟩) 1 cc) (hdep:X.fl<X.dp) (hrec:d.recs.length+rs.length<4000) (hnv:nv<=1000)
  (hbod:X.bod=.slice (some ⟨bo,0,none⟩) nf bc) (hb:Oo X bo fn (bkV k1)) (hac:lr.length<=ac) (hform:aa=none\/∃ g,aa=some (⟨g,0,none⟩:Addr)) (hl:Lst u aa lr) (hnb:∀ ad,aa=some ad->lr≠[]->¬stB X d ad.block) (hne:l≠[])
  (hbody:∀ F V fa fc d1 w1,St (xC X F V (fn:Int) (.slice aa lr.length ac) nv) d1 w1->d1.p=(dO d F nv fa fc).p.plus [⟨2,0,(fn:Int),fL,nm⟩] 0->Lst w1 aa lr->(∀ ad,aa=some ad->lr≠[]->¬stB (xC X F V (fn:Int) (.slice aa lr.length ac) nv) d1 ad.block)->
   Calls Tryz.prog 163 #[ptr F,ptr k1] w1 fun e w'=>q11 (xC X F V (fn:Int) (.slice aa lr.length ac) nv) d1 w1 (RetTo (xC X F V (fn:Int) (.slice aa lr.length ac) nv) w1.heap.size l (d1.p.plus rs tt)) e w') :
  Calls Tryz.prog 242 #[ptr X.M,fnD.v,.slice aa lr.length ac] u fun e w'=>ListTo X d u l (d.p.plus ([⟨2,0,(fn:Int),fL,nm⟩]++rs++[⟨3,0,(fn:Int),0,⟨#[]⟩⟩]) tt) e w':=by
 have HS:Hid (St X d u):=h
 have HE:Hid (EtX X):=hE
 have HU:Hid (UG X fn nf ub uo uc nv vc va nm fL (.slice p1 p2 p3) (.slice q1 q2 q3)):=hU
 have HFn:Hid (FnHas X d u (fn:Int) C B):=hfn
 have HC:Hid (d.cls=.slice (some ⟨B,0,none⟩) 1 cc):=hcls
 have HN:Hid (X.fl<X.dp/\d.recs.length+rs.length<4000/\nv<=1000/\lr.length<=ac/\l≠[]):=⟨hdep,hrec,hnv,hac,hne⟩
 have HBo:Hid (X.bod=.slice (some ⟨bo,0,none⟩) nf bc/\Oo X bo fn (bkV k1)):=⟨hbod,hb⟩
 have HA:Hid ((aa=none\/∃ g,aa=some (⟨g,0,none⟩:Addr))/\Lst u aa lr/\(∀ ad,aa=some ad->lr≠[]->¬stB X d ad.block)):=⟨hform,hl,hnb⟩
 have HBody:Hid (∀ F V fa fc d1 w1,St (xC X F V (fn:Int) (.slice aa lr.length ac) nv) d1 w1->d1.p=(dO d F nv fa fc).p.plus [⟨2,0,(fn:Int),fL,nm⟩] 0->Lst w1 aa lr->(∀ ad,aa=some ad->lr≠[]->¬stB (xC X F V (fn:Int) (.slice aa lr.length ac) nv) d1 ad.block)->
   Calls Tryz.prog 163 #[ptr F,ptr k1] w1 fun e w'=>q11 (xC X F V (fn:Int) (.slice aa lr.length ac) nv) d1 w1 (RetTo (xC X F V (fn:Int) (.slice aa lr.length ac) nv) w1.heap.size l (d1.p.plus rs tt)) e w'):=hbody
 clear h hE hU hfn hcls hdep hrec hnv hbod hb hac hform hl hnb hne hbody
 go_enter Tryz.func242,Tryz.ntmps242
 go_upto_region 1 with fail
 obtain ⟨w1,hw1⟩:∃ w1,(u.alloc (.cells #[ptr X.M] 39)).alloc (.cells (vA fnD) 113)=w1:=⟨_,rfl⟩
 obtain ⟨b3,hb3⟩:∃ b3,u.heap.size=b3:=⟨_,rfl⟩
 obtain ⟨b4,hb4⟩:∃ b4,b3+1=b4:=⟨_,rfl⟩
 have H1:Hid (Sp X d u d w1/\Bx X d w1 b3 #[ptr X.M]/\Bx X d w1 b4 (vA fnD)/\u.heap.size<=b3/\u.heap.size<=b4):=by
  rw[<-hw1,<-hb4,<-hb3]
  have h2:=Bx.new (HS.out.alloc (.cells #[ptr X.M] 39)) (vA fnD) 113
  rw[World.size_alloc] at h2
  exact ⟨((Sp.refl HS.out).alloc _).alloc _,(Bx.new HS.out _ _).alloc _,h2,Nat.le_refl _,by omega⟩
 rw[hw1,hb3,hb4]
 clear hw1 hb4 hb3
 have hge:((X.dp:Int)<=(X.fl:Int))=False:=by have:=HN.out.1;simp;omega
 have HK1:Hid (∀ w',Sp X d w1 d w'->w'.cell? ⟨b3,0,none⟩=some (ptr X.M)/\w'.cell? ⟨X.M,4,none⟩=some (.int .i64 (X.dp:Int))):=fun w' k=>⟨(H1.out.2.1.step k).cell 0 rfl,k.s.m.1.cell 4 rfl⟩
 go_cut [18] from 11 (fun s18 w=>s18=.bool false/\Hid (Sp X d w1 d w))
 case first=>
  have S0:=HK1.out _ (Sp.refl H1.out.1.s).drew
  have HD:Hid (St X d w1.drew):=H1.out.1.s.drew
  go_region_held3 (fun w'=>w'.cell? ⟨b3,0,none⟩=some (ptr X.M)/\w'.cell? ⟨X.M,4,none⟩=some (.int .i64 (X.dp:Int))) (first|exact S0) (first|(go_at_call 288;refine (qr8 X d _ HD.out).mono ?_;rintro e w2 ⟨rfl,rfl⟩))
  all_goals
   go_wp2_with fail
   go_meet
   case rel=>exact ⟨by simp,(Sp.refl H1.out.1.s).drew⟩
 obtain ⟨rfl,HS1⟩:=hcut
 rename World=>w2
 have H2:Hid (Sp X d u d w2/\Bx X d w2 b3 #[ptr X.M]/\Bx X d w2 b4 (vA fnD)/\u.heap.size<=b3/\u.heap.size<=b4/\FnHas X d w2 (fn:Int) C B):=⟨H1.out.1.trans HS1.out,H1.out.2.1.step HS1.out,H1.out.2.2.1.step HS1.out,H1.out.2.2.2.1,H1.out.2.2.2.2,HFn.out.step (H1.out.1.trans HS1.out)⟩
 clear HS1 H1 HK1 hge
 go_upto_region 3 with fail
 go_cut [7] from 11 (fun s7 w=>∃ b7,s7=ptr b7/\Hid (Sp X d w2 d w/\Bx X d w b7 #[ptr C]/\u.heap.size<=b7))
 case first=>
  have HK:Hid (∀ w',Sp X d w2 d w'->w'.cell? ⟨b3,0,none⟩=some (ptr X.M)/\w'.cell? ⟨X.M,17,none⟩=some (.slice (some ⟨B,0,none⟩) 1 cc)/\w'.cell? ⟨b4,4,none⟩=some (.int .i64 0)/\w'.cell? ⟨B,0,none⟩=some (ptr C)):=fun w' k=>⟨(H2.out.2.1.step k).cell 0 rfl,by rw[<-HC.out];exact k.s.m.1.cell 17 rfl,(H2.out.2.2.1.step k).cell 4 rfl,(H2.out.2.2.2.2.2.step k).2.1⟩
  have S0:=HK.out _ (Sp.refl H2.out.1.s).drew
  have S1:=HK.out _ ((Sp.refl H2.out.1.s).alloc (.cells #[.pointer none] 368)).drew
  have S2:=HK.out _ ((Sp.refl H2.out.1.s).alloc (.cells #[ptr C] 368)).drew
  go_region_held3 (fun w'=>w'.cell? ⟨b3,0,none⟩=some (ptr X.M)/\w'.cell? ⟨X.M,17,none⟩=some (.slice (some ⟨B,0,none⟩) 1 cc)/\w'.cell? ⟨b4,4,none⟩=some (.int .i64 0)/\w'.cell? ⟨B,0,none⟩=some (ptr C)) (first|exact S0|exact S1|exact S2) (fail)
  all_goals
   go_wp2_with fail
   go_meet
   case rel=>exact ⟨w2.heap.size,rfl,((Sp.refl H2.out.1.s).alloc _).drew,(Bx.new H2.out.1.s _ _).step (Sp.refl (H2.out.1.s.alloc _)).drew,H2.out.1.g.size⟩
 obtain ⟨b7,rfl,H3a⟩:=hcut
 rename World=>w3
 have H3:Hid (Sp X d u d w3/\Bx X d w3 b3 #[ptr X.M]/\Bx X d w3 b4 (vA fnD)/\u.heap.size<=b3/\u.heap.size<=b4/\FnHas X d w3 (fn:Int) C B/\Bx X d w3 b7 #[ptr C]/\u.heap.size<=b7):=⟨H2.out.1.trans H3a.out.1,H2.out.2.1.step H3a.out.1,H2.out.2.2.1.step H3a.out.1,H2.out.2.2.2.1,H2.out.2.2.2.2.1,H2.out.2.2.2.2.2.step H3a.out.1,H3a.out.2.1,H3a.out.2.2⟩
 clear H2 H3a
 go_upto_region 4 with fail
 go_cut [8] from 11 (fun s8 w=>∃ b8 F V fa fc,s8=ptr b8/\Hid (Op X d u (xO X F V (fn:Int) (.slice aa lr.length ac) nv) (dO d F nv fa fc) w (fn:Int) C B b3 b4 b7 b8 F/\u.heap.size<=b8))
 case first=>
  have HK:Hid (∀ w',Sp X d w3 d w'->w'.cell? ⟨b3,0,none⟩=some (ptr X.M)/\w'.cell? ⟨b7,0,none⟩=some (ptr C)/\w'.cell? ⟨C,0,none⟩=some (.int .i64 (fn:Int))):=fun w' k=>⟨(H3.out.2.1.step k).cell 0 rfl,(H3.out.2.2.2.2.2.2.1.step k).cell 0 rfl,(H3.out.2.2.2.2.2.1.step k).1.cell 0 rfl⟩
  have S0:=HK.out _ (Sp.refl H3.out.1.s).drew
  have S1:=HK.out _ ((Sp.refl H3.out.1.s).alloc (.cells #[.pointer none] 125)).drew
  have KA:Hid (Sp X d w3 d w3.drew):=(Sp.refl H3.out.1.s).drew
  have KB:Hid (Sp X d w3 d (w3.alloc (.cells #[.pointer none] 125)).drew):=((Sp.refl H3.out.1.s).alloc _).drew
  have HBx:Hid (BxO X d (w3.alloc (.cells #[.pointer none] 125)).drew w3.heap.size #[.pointer none]):=(BxO.new H3.out.1.s _ _).step (Sp.refl (H3.out.1.s.alloc _)).drew
  go_region_held3 (fun w'=>w'.cell? ⟨b3,0,none⟩=some (ptr X.M)/\w'.cell? ⟨b7,0,none⟩=some (ptr C)/\w'.cell? ⟨C,0,none⟩=some (.int .i64 (fn:Int))) (first|exact S0|exact S1|exact S2|exact S3|exact S4)
   (first
    |(go_at_call 52;refine (q86 X d fn nf ub uo uc nv vc lr.length ac va aa _ KA.out.s HU.out.u HN.out.2.2.1 (by have h5:=H3.out.1.s.x.kd;have h6:=HN.out.1;omega) HN.out.2.2.2.1 HA.out.1).mono ?_;rintro e w4 ⟨F,V,fa,fc,rfl,ho⟩;have HR:Hid (Op X d u (xO X F V (fn:Int) (.slice aa lr.length ac) nv) (dO d F nv fa fc) (w4.alloc (.cells #[ptr F] 125)) (fn:Int) C B b3 b4 b7 w4.heap.size F/\u.heap.size<=w4.heap.size):=Op.mk0 H3.out KA.out ho;have S2:=q52 H3.out KA.out ho _ (fun _ _=>rfl);have S3:=q52 H3.out KA.out ho (w4.alloc (.cells #[.pointer none] 125)) (fun k hk=>Below.heap_alloc _ _ k (Nat.lt_of_lt_of_le hk (KA.out.tr.trans ho.tr).g.size));have S4:=q52 H3.out KA.out ho (w4.alloc (.cells #[ptr F] 125)) (fun k hk=>Below.heap_alloc _ _ k (Nat.lt_of_lt_of_le hk (KA.out.tr.trans ho.tr).g.size));clear ho)
    |(go_at_call 52;refine (q86 X d fn nf ub uo uc nv vc lr.length ac va aa _ KB.out.s HU.out.u HN.out.2.2.1 (by have h5:=H3.out.1.s.x.kd;have h6:=HN.out.1;omega) HN.out.2.2.2.1 HA.out.1).mono ?_;rintro e w4 ⟨F,V,fa,fc,rfl,ho⟩;have HR:Hid (Op X d u (xO X F V (fn:Int) (.slice aa lr.length ac) nv) (dO d F nv fa fc) (w4.setCell ⟨w3.heap.size,0,none⟩ (ptr F)) (fn:Int) C B b3 b4 b7 w3.heap.size F/\u.heap.size<=w3.heap.size):=Op.mk1 H3.out KB.out HBx.out ho;have S2:=q52 H3.out KB.out ho _ (fun _ _=>rfl);have S3:=q52 H3.out KB.out ho (w4.setCell ⟨w3.heap.size,0,none⟩ (ptr F)) (fun k hk=>Below.heap_setCell _ _ _ _ (show k≠w3.heap.size by omega));have hbz:=(HBx.out.tr ho.tr).1;have q0:=hbz.1.cell 0 rfl;have qz:=hbz.2;have ql:=hbz.1.1;clear ho hbz))
  all_goals
   go_wp2_with fail
   go_meet
   case rel=>exact ⟨_,F,V,fa,fc,rfl,HR⟩
 obtain ⟨b8,F,V,fa,fc,rfl,H4⟩:=hcut
 rename World=>w4
 clear H3
 go_upto_region 5 with fail
 go_cut [] from 11 (fun w=>Hid (Op X d u (xC X F V (fn:Int) (.slice aa lr.length ac) nv) (dO d F nv fa fc) w (fn:Int) C B b3 b4 b7 b8 F))
 case first=>
  have HK:Hid (∀ w',Gx (fun k=>k=F) w4 w'->w'.cell? ⟨b8,0,none⟩=some (ptr F)/\w'.cell? ⟨b7,0,none⟩=some (ptr C)/\w'.cell? ⟨C,1,none⟩=some (.slice none 0 0)/\w'.cell? ⟨b4,0,none⟩=some (.int .i64 6)/\w'.cell? ⟨b4,1,none⟩=some (.int .i64 0)/\w'.cell? ⟨b4,2,none⟩=some (.float .f64 0)/\w'.cell? ⟨b4,3,none⟩=some (.string ⟨#[]⟩)/\w'.cell? ⟨b4,4,none⟩=some (.int .i64 0)):=fun w' k=>z68 H4.out.1 k
  have f2:=H4.out.1.s.f.1.cell 2 rfl
  have f3:=H4.out.1.s.f.1.cell 3 rfl
  have f4:=H4.out.1.s.f.1.cell 4 rfl
  have f5:=H4.out.1.s.f.1.cell 5 rfl
  have f6:=H4.out.1.s.f.1.cell 6 rfl
  have f7:=H4.out.1.s.f.1.cell 7 rfl
  have fz:=H4.out.1.s.f.2
  have lF:=H4.out.1.s.f.1.1
  have S0:=HK.out w4.drew (GxS.drew (Gx.refl _ _))
  go_region_held3 (fun w'=>w'.cell? ⟨b8,0,none⟩=some (ptr F)/\w'.cell? ⟨b7,0,none⟩=some (ptr C)/\w'.cell? ⟨C,1,none⟩=some (.slice none 0 0)/\w'.cell? ⟨b4,0,none⟩=some (.int .i64 6)/\w'.cell? ⟨b4,1,none⟩=some (.int .i64 0)/\w'.cell? ⟨b4,2,none⟩=some (.float .f64 0)/\w'.cell? ⟨b4,3,none⟩=some (.string ⟨#[]⟩)/\w'.cell? ⟨b4,4,none⟩=some (.int .i64 0)) (first|with_reducible exact S0|(refine HK.out _ ?_;(repeat (first|with_reducible exact Gx.refl _ _|with_reducible refine GxS.set ?_ _ _|with_reducible refine GxS.drew ?_)))) (fail)
  all_goals
   go_wp2_with fail
   go_meet
   case rel=>exact Op.called H4.out.1
 have H5:=hcut
 rename World=>w5
 have HL8:Hid (u.heap.size<=b8):=H4.out.2
 clear H4 hcut
 obtain ⟨X',hX'⟩:∃ X',xC X F V (fn:Int) (.slice aa lr.length ac) nv=X':=⟨_,rfl⟩
 obtain ⟨d0,hd0⟩:∃ d0,dO d F nv fa fc=d0:=⟨_,rfl⟩
 have HXe:Hid (xC X F V (fn:Int) (.slice aa lr.length ac) nv=X'):=hX'
 have HDe:Hid (dO d F nv fa fc=d0):=hd0
 have HXM:Hid (X'.M=X.M/\X'.W=X.W/\X'.F=F/\X'.fns=X.fns/\X'.bod=X.bod):=by rw[<-hX'];exact ⟨rfl,rfl,rfl,rfl,rfl⟩
 have H6:Hid (Op X d u X' d0 w5 (fn:Int) C B b3 b4 b7 b8 F):=by rw[<-hX',<-hd0];exact H5.out
 clear H5 hX' hd0
 go_upto_region 6 with fail
 have hi0:(0:Int)<=(fn:Int):=Int.natCast_nonneg _
 have hi1:(fn:Int)<(nf:Int):=by have:=HU.out.u.i;omega
 go_cut [9] from 11 (fun s9 w=>∃ b9,s9=ptr b9/\Hid (Sp X' d0 w5 d0 w/\Bx X' d0 w b9 (fn7 nm fL va nv vc (.slice p1 p2 p3) (.slice q1 q2 q3))))
 case first=>
  have HK:Hid (∀ w',Sp X' d0 w5 d0 w'->w'.cell? ⟨b3,0,none⟩=some (ptr X.M)/\w'.cell? ⟨X.M,0,none⟩=some (.slice (some ⟨ub,uo,none⟩) nf uc)/\w'.cell? ⟨b7,0,none⟩=some (ptr C)/\w'.cell? ⟨C,0,none⟩=some (.int .i64 (fn:Int))/\w'.cell? ⟨ub,uo+fn*7,none⟩=some (.string nm)/\w'.cell? ⟨ub,uo+fn*7+1,none⟩=some (.int .i64 fL)/\w'.cell? ⟨ub,uo+fn*7+2,none⟩=some (.int .i64 0)/\w'.cell? ⟨ub,uo+fn*7+3,none⟩=some (.bool true)/\w'.cell? ⟨ub,uo+fn*7+4,none⟩=some (.slice va nv vc)/\w'.cell? ⟨ub,uo+fn*7+5,none⟩=some (.slice p1 p2 p3)/\w'.cell? ⟨ub,uo+fn*7+6,none⟩=some (.slice q1 q2 q3)):=fun w' k=>z69 HU.out HXM.out.1 HXM.out.2.1 HXM.out.2.2.2.1 H6.out k
  have HSp:Hid (Sp X' d0 w5 d0 w5):=Sp.refl H6.out.s
  go_region_held3 (fun w'=>w'.cell? ⟨b3,0,none⟩=some (ptr X.M)/\w'.cell? ⟨X.M,0,none⟩=some (.slice (some ⟨ub,uo,none⟩) nf uc)/\w'.cell? ⟨b7,0,none⟩=some (ptr C)/\w'.cell? ⟨C,0,none⟩=some (.int .i64 (fn:Int))/\w'.cell? ⟨ub,uo+fn*7,none⟩=some (.string nm)/\w'.cell? ⟨ub,uo+fn*7+1,none⟩=some (.int .i64 fL)/\w'.cell? ⟨ub,uo+fn*7+2,none⟩=some (.int .i64 0)/\w'.cell? ⟨ub,uo+fn*7+3,none⟩=some (.bool true)/\w'.cell? ⟨ub,uo+fn*7+4,none⟩=some (.slice va nv vc)/\w'.cell? ⟨ub,uo+fn*7+5,none⟩=some (.slice p1 p2 p3)/\w'.cell? ⟨ub,uo+fn*7+6,none⟩=some (.slice q1 q2 q3)) (first|(refine HK.out _ ?_;(repeat (first|with_reducible exact HSp.out|with_reducible refine Sp.alloc ?_ _|with_reducible refine Sp.drew ?_)))) (fail)
  all_goals
   go_wp2_with fail
   go_meet
   case rel=>exact ⟨_,rfl,(HSp.out.alloc _).drew,(Bx.new H6.out.s _ _).step (Sp.refl (H6.out.s.alloc _)).drew⟩
 obtain ⟨b9,rfl,H7a⟩:=hcut
 rename World=>w6
 have H7:Hid (Op X d u X' d0 w6 (fn:Int) C B b3 b4 b7 b8 F/\Bx X' d0 w6 b9 (fn7 nm fL va nv vc (.slice p1 p2 p3) (.slice q1 q2 q3))):=⟨H6.out.step H7a.out.1,H7a.out.2⟩
 clear H6 H7a hi0 hi1
 go_upto_region 7 with fail
 go_cut [] from 11 (fun w=>∃ d1,Hid (Op X d u X' d1 w (fn:Int) C B b3 b4 b7 b8 F/\Bx X' d1 w b9 (fn7 nm fL va nv vc (.slice p1 p2 p3) (.slice q1 q2 q3))/\d1.p=d0.p.plus [⟨2,0,(fn:Int),fL,nm⟩] 0))
 case first=>
  have HK:Hid (∀ d' w',Sp X' d0 w6 d' w'->w'.cell? ⟨b3,0,none⟩=some (ptr X.M)/\w'.cell? ⟨b7,0,none⟩=some (ptr C)/\w'.cell? ⟨C,0,none⟩=some (.int .i64 (fn:Int))/\w'.cell? ⟨b9,0,none⟩=some (.string nm)/\w'.cell? ⟨b9,1,none⟩=some (.int .i64 fL)):=fun d' w' k=>⟨(H7.out.1.x3.step k).cell 0 rfl,(H7.out.1.x7.step k).cell 0 rfl,(H7.out.1.f.step k).1.cell 0 rfl,(H7.out.2.step k).cell 0 rfl,(H7.out.2.step k).cell 1 rfl⟩
  have S0:=HK.out d0 _ (Sp.refl H7.out.1.s).drew
  have HSd:Hid (St X' d0 w6.drew):=H7.out.1.s.drew
  have hrec:d0.recs.length<5000:=by rw[<-HDe.out];show d.recs.length<5000;have:=HN.out.2.1;omega
  have hXM:=HXM.out.1
  go_region_held3 (fun w'=>w'.cell? ⟨b3,0,none⟩=some (ptr X.M)/\w'.cell? ⟨b7,0,none⟩=some (ptr C)/\w'.cell? ⟨C,0,none⟩=some (.int .i64 (fn:Int))/\w'.cell? ⟨b9,0,none⟩=some (.string nm)/\w'.cell? ⟨b9,1,none⟩=some (.int .i64 fL)) (first|with_reducible exact S0|with_reducible exact S1) (first|(go_at_call 142;have hRc:=q31 X' d0 2 (fn:Int) fL nm _ HSd.out hrec;rw[hXM] at hRc;refine hRc.mono ?_;clear hRc;rintro e w7 ⟨rfl,d1,hs7,e7⟩;have S1:=HK.out d1 w7 ((Sp.refl H7.out.1.s).drew.trans hs7);have HR:Hid (Op X d u X' d1 w7 (fn:Int) C B b3 b4 b7 b8 F/\Bx X' d1 w7 b9 (fn7 nm fL va nv vc (.slice p1 p2 p3) (.slice q1 q2 q3))/\d1.p=d0.p.plus [⟨2,0,(fn:Int),fL,nm⟩] 0):=⟨H7.out.1.step ((Sp.refl H7.out.1.s).drew.trans hs7),H7.out.2.step ((Sp.refl H7.out.1.s).drew.trans hs7),by rw[e7,DP.rcd_plus]⟩;clear hs7 e7))
  all_goals
   go_wp2_with fail
   go_meet
   case rel=>exact ⟨_,HR⟩
 obtain ⟨d1,H8⟩:=hcut
 rename World=>w8
 clear H7
 have HAtt:Hid (Calls Tryz.prog 53 #[ptr F,opnV b3 b7 b8] w8 fun e w'=>q11 X' d1 w8 (LnTo X' d1.line (RetTo X' (w8.heap.size+3) l (d1.p.plus rs tt))) e w'):=by
  have hX:=HXe.out
  have hD:=HDe.out
  subst hX hD
  refine za9 _ d1 b3 b7 b8 _ w8 H8.out.1.s (z60 _ d1 b3 b7 b8 _ w8 H8.out.1.s (RetTo.wayOk _ _ _ _) (RetTo.farOk _ _ _ _) (fun w2 k hsz=>?_))
  refine zf9 _ d1 b3 b7 b8 C fn nf bo bc k1 _ w2 k.s (H8.out.1.x3.step k) (H8.out.1.x7.step k) (H8.out.1.x8.step k) (H8.out.1.f.step k).1 HBo.out.1 HU.out.u.i HBo.out.2 (fun w3 k3 hsz3=>?_)
  have hA:=HA.out.2.1.tr HA.out.2.2 (H8.out.1.t.trans (k.trans k3).tr)
  refine (HBody.out F V fa fc d1 w3 k3.s H8.out.2.2 hA.1 hA.2).mono ?_
  rintro e w' ⟨way,d',rfl,hs,hr⟩
  exact ⟨way,d',rfl,hs,hr.mono (by omega)⟩
 have b80:=H8.out.1.x8.cell 0 rfl
 have hmf:=qf9
 go_wp2_with fail
 refine HAtt.out.mono ?_
 rintro e w9 ⟨way,d3,rfl,hs3,hr3⟩
 obtain ⟨K,g,c,rfl,hKb,hgl,hcap,hN,e3⟩:=RetTo.ln hr3
 have H9:Hid (Op X d u X' d3 w9 (fn:Int) C B b3 b4 b7 b8 F/\Bx X' d3 w9 b9 (fn7 nm fL va nv vc (.slice p1 p2 p3) (.slice q1 q2 q3))/\Bx X' d3 w9 K #[.slice (some ⟨g,0,none⟩) l.length c]/\Bl X' d3 w9 g l/\u.heap.size<=g/\d3.p=d0.p.plus ([⟨2,0,(fn:Int),fL,nm⟩]++rs) tt):=⟨H8.out.1.step hs3,H8.out.2.1.step hs3,hKb,hgl,Nat.le_trans (Nat.le_trans H8.out.1.t.g.size (by omega)) hN.2,by
  rw[e3]
  show d1.p.plus rs tt=_
  rw[H8.out.2.2,DP.plus_plus,Nat.zero_add]⟩
 have HCap:Hid (l.length<=c):=hcap
 clear hs3 hr3 hKb hgl hcap hN e3 HAtt H8 b80 hmf
 go_upto_region 9 with fail
 go_cut [] from 11 (fun w=>∃ d4,Hid (Sp X' d3 w9 d4 w/\d4.p=d3.p))
 case first=>
  have hsc:d3.sc=[]:=by
   have h1:d3.sc=d0.sc:=congrArg DP.sc H9.out.2.2.2.2.2
   rw[h1,<-HDe.out]
  have hXF:=HXM.out.2.2.1
  have f10:w9.cell? ⟨F,10,none⟩=some (.slice d3.sa 0 d3.sp):=by
   have h1:w9.cell? ⟨X'.F,10,none⟩=some (.slice d3.sa d3.sc.length d3.sp):=H9.out.1.s.f.1.cell 10 rfl
   rw[hXF,hsc] at h1
   exact h1
  have fz:∀ o,w9.frozen? ⟨F,o,none⟩=false:=by
   have h1:=H9.out.1.s.f.2
   rw[hXF] at h1
   exact h1
  have lF:F<w9.heap.size:=by rw[<-hXF];exact H9.out.1.s.f.1.1
  have hif:=qf7 d3.sa (d3.sp=0) (H9.out.1.s.scCap.2.elim (fun h=>.inl h.1) .inr)
  have hSp:Sp X' d3 w9 {d3 with sc:=d3.sc.take 0} (w9.setCell ⟨F,10,none⟩ (.slice d3.sa 0 d3.sp)):=by
   rw[<-hXF]
   exact Sp.cutS H9.out.1.s (m:=0) (Nat.zero_le _)
  have HR:Hid (Sp X' d3 w9 {d3 with sc:=d3.sc.take 0} (w9.setCell ⟨F,10,none⟩ (.slice d3.sa 0 d3.sp)).drew/\({d3 with sc:=d3.sc.take 0}:MD).p=d3.p):=⟨hSp.drew,by rw[hsc];simp[MD.p,hsc]⟩
  have S0:w9.cell? ⟨b8,0,none⟩=some (ptr F)/\w9.cell? ⟨b9,2,none⟩=some (.int .i64 0):=⟨H9.out.1.x8.cell 0 rfl,H9.out.2.1.cell 2 rfl⟩
  have S1:((w9.setCell ⟨F,10,none⟩ (.slice d3.sa 0 d3.sp)).drew).cell? ⟨b8,0,none⟩=some (ptr F)/\((w9.setCell ⟨F,10,none⟩ (.slice d3.sa 0 d3.sp)).drew).cell? ⟨b9,2,none⟩=some (.int .i64 0):=⟨(H9.out.1.x8.step hSp.drew).cell 0 rfl,(H9.out.2.1.step hSp.drew).cell 2 rfl⟩
  clear hSp hsc hXF
  refine wp_region_held_drew (S:=fun w'=>w'.cell? ⟨b8,0,none⟩=some (ptr F)/\w'.cell? ⟨b9,2,none⟩=some (.int .i64 0)) (by kernel_rfl) S0 (fun hHold=>?_)
  refine wpAnyH_take (i:=0) (oi:=⟨some 72,_,_,_,_,_⟩) (v:=?v1) rfl (by kernel_rfl) (by kernel_rfl) (by kernel_rfl) (fun _ _ _ h=>h) (Or.inl ⟨by rfl,?hy1⟩) (by assumption) ?rest1
  case hy1=>(intro wz hSw;(try dsimp only at hSw);go_simp<;>with_reducible rfl)
  try simp only[Act.put,zz1,zz2,zz3]
  refine wpAnyH_take (i:=1) (oi:=⟨some 73,_,_,_,_,_⟩) (v:=?v2) rfl (by kernel_rfl) (by kernel_rfl) (by kernel_rfl) (fun _ _ _ h=>h) (Or.inl ⟨by rfl,?hy2⟩) (by assumption) ?rest2
  case hy2=>(intro wz hSw;(try dsimp only at hSw);go_simp<;>with_reducible rfl)
  try simp only[Act.put,zz1,zz2,zz3]
  refine wpAnyH_take (i:=2) (oi:=⟨some 74,_,_,_,_,_⟩) (v:=?v3) rfl (by kernel_rfl) (by kernel_rfl) (by kernel_rfl) (fun _ _ _ h=>h) (Or.inl ⟨by rfl,?hy3⟩) (by assumption) ?rest3
  case hy3=>(intro wz hSw;(try dsimp only at hSw);go_simp<;>with_reducible rfl)
  try simp only[Act.put,zz1,zz2,zz3]
  refine wpAnyH_take (i:=3) (oi:=⟨some 75,_,_,_,_,_⟩) (v:=?v4) rfl (by kernel_rfl) (by kernel_rfl) (by kernel_rfl) (fun _ _ _ h=>h) (Or.inl ⟨by rfl,?hy4⟩) (by assumption) ?rest4
  case hy4=>(intro wz hSw;(try dsimp only at hSw);go_simp<;>with_reducible rfl)
  try simp only[Act.put,zz1,zz2,zz3]
  refine wpAnyH_take (i:=5) (oi:=⟨some 77,_,_,_,_,_⟩) (v:=?v5) rfl (by kernel_rfl) (by kernel_rfl) (by kernel_rfl) (fun _ _ _ h=>h) (Or.inl ⟨by rfl,?hy5⟩) (by assumption) ?rest5
  case hy5=>(intro wz hSw;(try dsimp only at hSw);go_simp<;>with_reducible rfl)
  try simp only[Act.put,zz1,zz2,zz3]
  refine wpAnyH_take (i:=6) (oi:=⟨some 78,_,_,_,_,_⟩) (v:=?v6) rfl (by kernel_rfl) (by kernel_rfl) (by kernel_rfl) (fun _ _ _ h=>h) (Or.inl ⟨by rfl,?hy6⟩) (by assumption) ?rest6
  case hy6=>(intro wz hSw;(try dsimp only at hSw);go_simp<;>with_reducible rfl)
  try simp only[Act.put,zz1,zz2,zz3]
  refine wpAnyH_ready (rs:=[4]) (by kernel_rfl) (by simp) ?_
  refine AllReadyH.cons (o:=⟨some 76,_,_,_,_,_⟩) rfl (fun K hK=>?_) AllReadyH.nil
  go_simp
  refine hK.out _ _ S0 (fun hHeld=>?_)
  clear hK K hHold
  have hHold:=hHeld
  clear hHeld
  try simp only[Act.put,zz1,zz2,zz3]
  refine wpAnyH_take (i:=7) (oi:=⟨some 79,_,_,_,_,_⟩) (v:=?v7) rfl (by kernel_rfl) (by kernel_rfl) (by kernel_rfl) (fun _ _ _ h=>h) (Or.inl ⟨by rfl,?hy7⟩) (by assumption) ?rest7
  case hy7=>(intro wz hSw;(try dsimp only at hSw);go_simp<;>with_reducible rfl)
  try simp only[Act.put,zz1,zz2,zz3]
  refine wpAnyH_take (i:=8) (oi:=⟨some 80,_,_,_,_,_⟩) (v:=?v8) rfl (by kernel_rfl) (by kernel_rfl) (by kernel_rfl) (fun _ _ _ h=>h) (Or.inl ⟨by rfl,?hy8⟩) (by assumption) ?rest8
  case hy8=>(intro wz hSw;(try dsimp only at hSw);go_simp<;>with_reducible rfl)
  try simp only[Act.put,zz1,zz2,zz3]
  refine wpAnyH_take (i:=9) (oi:=⟨some 81,_,_,_,_,_⟩) (v:=?v9) rfl (by kernel_rfl) (by kernel_rfl) (by kernel_rfl) (fun _ _ _ h=>h) (Or.inl ⟨by rfl,?hy9⟩) (by assumption) ?rest9
  case hy9=>(intro wz hSw;(try dsimp only at hSw);go_simp<;>with_reducible rfl)
  try simp only[Act.put,zz1,zz2,zz3]
  refine wpAnyH_ready (rs:=[10]) (by kernel_rfl) (by simp) ?_
  refine AllReadyH.cons (o:=⟨none,_,_,_,_,_⟩) rfl (fun K hK=>?_) AllReadyH.nil
  go_simp
  refine hK.out _ _ S1 (fun hHeld=>?_)
  clear hK K hHold
  have hHold:=hHeld
  clear hHeld
  try simp only[Act.put,zz1,zz2,zz3]
  refine wpAnyH_done (by kernel_rfl) ?_ _
  go_wp2_with fail
  go_meet
  case rel=>exact ⟨_,HR⟩
 obtain ⟨d4,H10a⟩:=hcut
 rename World=>w10
 have H10:Hid (Op X d u X' d4 w10 (fn:Int) C B b3 b4 b7 b8 F/\Bx X' d4 w10 K #[.slice (some ⟨g,0,none⟩) l.length c]/\Bl X' d4 w10 g l/\u.heap.size<=g/\d4.p=d0.p.plus ([⟨2,0,(fn:Int),fL,nm⟩]++rs) tt):=⟨H9.out.1.step H10a.out.1,H9.out.2.2.1.step H10a.out.1,H9.out.2.2.2.1.step H10a.out.1,H9.out.2.2.2.2.1,H10a.out.2.trans H9.out.2.2.2.2.2⟩
 clear H9 H10a
 go_upto_region 10 with fail
 have HE':Hid (EtX X'):=by
  have h1:=HE.out
  unfold EtX at h1 ⊢
  rw[HXM.out.1,HXM.out.2.1]
  exact h1
 go_cut [] from 11 (fun w=>∃ d5,Hid (Op X d u X' d5 w (fn:Int) C B b3 b4 b7 b8 F/\Bx X' d5 w K #[.slice (some ⟨g,0,none⟩) l.length c]/\Bl X' d5 w g l/\d5.p=d0.p.plus ([⟨2,0,(fn:Int),fL,nm⟩]++rs++[⟨3,0,(fn:Int),0,⟨#[]⟩⟩]) tt))
 case first=>
  have HK:Hid (∀ d' w',Sp X' d4 w10 d' w'->w'.cell? ⟨b3,0,none⟩=some (ptr X.M)/\w'.cell? ⟨b7,0,none⟩=some (ptr C)/\w'.cell? ⟨C,0,none⟩=some (.int .i64 (fn:Int))):=fun d' w' k=>⟨(H10.out.1.x3.step k).cell 0 rfl,(H10.out.1.x7.step k).cell 0 rfl,(H10.out.1.f.step k).1.cell 0 rfl⟩
  have S0:=HK.out d4 _ (Sp.refl H10.out.1.s).drew
  have KA:Hid (Sp X' d4 w10 d4 w10.drew):=(Sp.refl H10.out.1.s).drew
  have hrec:d4.recs.length<5000:=by
   have h1:d4.recs=d0.recs++([⟨2,0,(fn:Int),fL,nm⟩]++rs):=congrArg DP.recs H10.out.2.2.2.2
   have h2:d0.recs=d.recs:=by rw[<-HDe.out]
   have h3:=HN.out.2.1
   rw[h1,h2]
   simp
   omega
  have hXM:=HXM.out.1
  go_region_held3 (fun w'=>w'.cell? ⟨b3,0,none⟩=some (ptr X.M)/\w'.cell? ⟨b7,0,none⟩=some (ptr C)/\w'.cell? ⟨C,0,none⟩=some (.int .i64 (fn:Int))) (first|with_reducible exact S0|with_reducible exact S1|with_reducible exact S2)
   (first
    |(go_at_call 290;refine (zi8 K _ (HE'.out.at KA.out.s)).mono ?_;rintro e w11 ⟨rfl,hb11⟩;have KB:Hid (Sp X' d4 w10 d4 w11):=KA.out.call hb11;have S1:=HK.out d4 w11 KB.out;clear hb11)
    |(go_at_call 142;have hRc:=q31 X' d4 3 (fn:Int) 0 ⟨#[]⟩ _ KB.out.s hrec;rw[hXM] at hRc;refine hRc.mono ?_;clear hRc;rintro e w12 ⟨rfl,d5,hs12,e12⟩;have S2:=HK.out d5 w12 (KB.out.trans hs12);have HR:Hid (Op X d u X' d5 w12 (fn:Int) C B b3 b4 b7 b8 F/\Bx X' d5 w12 K #[.slice (some ⟨g,0,none⟩) l.length c]/\Bl X' d5 w12 g l/\d5.p=d0.p.plus ([⟨2,0,(fn:Int),fL,nm⟩]++rs++[⟨3,0,(fn:Int),0,⟨#[]⟩⟩]) tt):=⟨H10.out.1.step (KB.out.trans hs12),H10.out.2.1.step (KB.out.trans hs12),H10.out.2.2.1.step (KB.out.trans hs12),by rw[e12,H10.out.2.2.2.2,DP.rcd_plus,DP.plus_plus,Nat.add_zero]⟩;clear hs12 e12))
  all_goals
   go_wp2_with fail
   go_meet
   case rel=>exact ⟨_,HR⟩
 obtain ⟨d5,H11⟩:=hcut
 rename World=>w13
 have HG:Hid (u.heap.size<=g):=H10.out.2.2.2.1
 clear H10
 have hSR:SameRun X X':=by rw[<-HXe.out];exact SameRun.xC _ _ _ _ _ _
 have HSR:Hid (SameRun X X'):=hSR
 have hfr:d5.fr=d.fr++[ptr X'.F]:=by
  have h1:d5.fr=d0.fr:=congrArg DP.fr H11.out.2.2.2
  rw[h1,HXM.out.2.2.1,<-HDe.out]
 have hcl:=qr9 X X' d d5 w13 H11.out.1.s hSR H11.out.1.p hfr
 rw[HXM.out.2.2.1] at hcl
 have HCl:Hid (Calls Tryz.prog 291 #[ptr X.M,ptr F] w13 fun e w'=>e=.returned (.tuple #[])/\St X (dBk d d5) w'/\Gx (fun k=>k=X.T) w13 w'):=hcl
 have b30:=H11.out.1.x3.cell 0 rfl
 have b80:=H11.out.1.x8.cell 0 rfl
 clear hcl hfr hSR
 go_wp2_with fail
 refine HCl.out.mono ?_
 rintro e w14 ⟨rfl,hS14,hg14⟩
 have hrl:=ye1 H11.out.1.t HSR.out hS14 hg14 H11.out.2.2.1 HG.out HS.out
 have H14:Hid (Sp X d u (dBk d d5) w14/\Bl X (dBk d d5) w14 g l):=hrl
 have HK14:Hid (Has w14 K #[.slice (some ⟨g,0,none⟩) l.length c]):=hg14.has H11.out.2.1.1 (fun e=>H11.out.2.1.2 (.inr (.inl (by rw[HSR.out.T];exact e))))
 clear hS14 hg14 hrl b30 b80 HCl
 go_wp2_with fail
 refine (qo8 K l.length c (some ⟨g,0,none⟩) _ (HE.out.at H14.out.1.s) HK14.out).mono ?_
 rintro e w15 ⟨rfl,hb15⟩
 have HF:Hid (ListTo X d u l (d.p.plus ([⟨2,0,(fn:Int),fL,nm⟩]++rs++[⟨3,0,(fn:Int),0,⟨#[]⟩⟩]) tt) (.returned (.slice (some ⟨g,0,none⟩) l.length c)) w15):=⟨some ⟨g,0,none⟩,c,dBk d d5,rfl,fun e=>absurd e HN.out.2.2.2.2,(H14.out.2.call hb15).lst,H14.out.1.call hb15,yq8 (by rw[HDe.out];exact H11.out.2.2.2),fun ad e _=>by cases e;exact H14.out.2.2⟩
 clear hb15
 go_wp2_with fail
 go_ret
 exact HF.out
end Go.Proofs.YtaimofjekgnieaaGreatDoor
