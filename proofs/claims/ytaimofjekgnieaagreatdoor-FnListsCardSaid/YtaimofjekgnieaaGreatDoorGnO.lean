import Derived.Test.YtaimofjekgnieaaGreatDoorGnE
import Derived.Deep.Cut
set_option maxRecDepth 100000
set_option maxHeartbeats 16000000
namespace Go.Proofs.YtaimofjekgnieaaGreatDoor
open Go.RowKit
attribute [local go_sem] q00
attribute [local go_sem ↓] Go.wp_at_zero Go.wp_at_succ
structure UF (X:RX) (fn nf ub uo uc nv vc:Nat) (va:Option Addr):Prop where
 f:X.fns=.slice (some ⟨ub,uo,none⟩) nf uc
 i:fn<nf
 lt:ub<X.W.heap.size
 ne:ub≠X.M
 p:X.W.cell? ⟨ub,uo+fn*7+2,none⟩=some (.int .i64 0)
 r:X.W.cell? ⟨ub,uo+fn*7+3,none⟩=some (.bool true)
 v:X.W.cell? ⟨ub,uo+fn*7+4,none⟩=some (.slice va nv vc)
theorem UF.at {X:RX} {fn nf ub uo uc nv vc:Nat} {va:Option Addr} (h:UF X fn nf ub uo uc nv vc va) {d:MD} {w:World} (s:St X d w) (o:Nat):w.cell? ⟨ub,o,none⟩=X.W.cell? ⟨ub,o,none⟩:=World.cell?_of_block (a:=⟨ub,o,none⟩) (s.k.block ub h.lt (fun e=>by
 rcases e with e|e
 ·exact h.ne e
 ·have:=h.lt;omega))
theorem zl6:(Tryz.prog.info? 217).map (fun i=>(i.zero,i.size,i.bytes))=some (some (.pointer none),1,8):=by kernel_rfl
theorem qx5:(Tryz.prog.info? 125).map (fun i=>(i.zero,i.size,i.bytes))=some (some (.pointer none),1,8):=by kernel_rfl
theorem yk1 (a:Option Addr) (c:Prop) [Decidable c] (h:a=none\/∃ g,a=some (⟨g,0,none⟩:Addr)):(if c then a else a.map (fun x=>x.add 0))=a:=by
 rcases h with rfl|⟨g,rfl⟩<;>simp[Addr.add]
abbrev nvA (nv:Nat):Array Value:=madeCells #[.pointer none] nv
abbrev xO (X:RX) (F V:Nat) (fn:Int) (rest:Value) (nv:Nat):RX:={X with F:=F,V:=V,fn:=fn,cal:=⟨0,0,0,⟨#[]⟩,0⟩,ups:=.slice none 0 0,rest:=rest,fl:=X.fl+1,nv:=nv}
abbrev dO (d:MD) (F nv:Nat) (fa:Option Addr) (fc:Nat):MD:={d with sc:=[],sa:=none,sp:=0,line:=0,vs:=(nvA nv).toList,fr:=d.fr++[ptr F],fa:=fa,fc:=fc}
abbrev fZ (X:RX) (V nv:Nat) (fn:Int) (rest:Value):Array Value:=#[.pointer (some ⟨X.T,0,none⟩),.int .i64 fn,.int .i64 0,.int .i64 0,.float .f64 0,.string ⟨#[]⟩,.int .i64 0,.slice none 0 0,.slice (some ⟨V,0,none⟩) nv nv,rest,.slice none 0 0,.slice none 0 0,.int .i64 0]
structure Opened (X:RX) (d:MD) (u:World) (fn:Int) (rest:Value) (nv F V:Nat) (fa:Option Addr) (fc:Nat) (w':World):Prop where
 s:St (xO X F V fn rest nv) (dO d F nv fa fc) w'
 g:Gx (fun k=>k=X.T\/bkOf d.fa=some k) u w'
 F:u.heap.size<=F
 V:u.heap.size<=V
 fa:∀ k,k<u.heap.size->bkOf fa=some k->bkOf d.fa=some k
theorem q86 (X:RX) (d:MD) (fn nf ub uo uc nv vc n ac:Nat) (va aa:Option Addr) (u:World) (h:St X d u) (hU:UF X fn nf ub uo uc nv vc va) (hnv:nv<=1000) (hfl:X.fl<900) (hac:n<=ac) (hform:aa=none\/∃ g,aa=some (⟨g,0,none⟩:Addr)) :
  Calls Tryz.prog 52 #[ptr X.M,.int .i64 (fn:Int),.slice aa n ac] u fun e w'=>∃ F V fa fc,e=.returned (ptr F)/\Opened X d u (fn:Int) (.slice aa n ac) nv F V fa fc w':=by
 have HS:Hid (St X d u):=h
 have HU:Hid (UF X fn nf ub uo uc nv vc va):=hU
 have m23:u.cell? ⟨X.M,23,none⟩=some (ptr X.T):=h.m.1.cell 23 rfl
 have m0:u.cell? ⟨X.M,0,none⟩=some (.slice (some ⟨ub,uo,none⟩) nf uc):=by rw[<-hU.f];exact h.m.1.cell 0 rfl
 have u2:=(hU.at h (uo+fn*7+2)).trans hU.p
 have u4:=(hU.at h (uo+fn*7+4)).trans hU.v
 have hi0:(0:Int)<=(fn:Int):=Int.natCast_nonneg _
 have hi1:(fn:Int)<(nf:Int):=by have:=hU.i;omega
 have hMl:=h.m.1.1
 have hUl:ub<u.heap.size:=Nat.lt_of_lt_of_le hU.lt h.k.size
 have hmk:∀ v:World,(Instr.makeSlice 165 (.int .i64 (nv:Int)) (.int .i64 (nv:Int))).run Tryz.prog v=.ok (.slice (some ⟨v.heap.size,0,none⟩) nv nv) (v.alloc (.cells (nvA nv) 217)):=fun v=>
  run_make_row' (P:=Tryz.prog) 165 217 (.pointer none) 8 Tryz.underlying165 zl6 rfl .i64 .i64 nv (by omega) (by omega) v
 have HC:Hid (nv<=1000/\X.fl<900/\n<=ac):=⟨hnv,hfl,hac⟩
 clear h hU hnv hfl
 go_enter Tryz.func52,Tryz.ntmps52
 go_upto_region 4 with fail
 obtain ⟨w1,hw1⟩:∃ w1,(u.alloc (.cells (nvA nv) 217)).alloc (.cells (fZ X u.heap.size nv (fn:Int) (.slice none 0 0)) 168)=w1:=⟨_,rfl⟩
 have H1:Hid (Below u.heap.size u w1):=by rw[<-hw1];exact (q01 u _).alloc (by simp) _
 have HV:Hid (OwnB w1 u.heap.size (nvA nv)/\w1.heap.size=u.heap.size+2/\BkT w1 u.heap.size 217):=by
  rw[<-hw1]
  exact ⟨(OwnB.new u _ _).block (by simp) (Below.block (q01 _ _) _ (by simp)),by simp,(BkT.new u _ _).keep (Below.block (q01 _ _) _ (by simp))⟩
 have HF:Hid (OwnB w1 (u.heap.size+1) (fZ X u.heap.size nv (fn:Int) (.slice none 0 0))/\BkT w1 (u.heap.size+1) 168):=by
  rw[<-hw1]
  have:=OwnB.new (u.alloc (.cells (nvA nv) 217)) (fZ X u.heap.size nv (fn:Int) (.slice none 0 0)) 168
  have h2:=BkT.new (u.alloc (.cells (nvA nv) 217)) (fZ X u.heap.size nv (fn:Int) (.slice none 0 0)) 168
  rw[show (u.alloc (.cells (nvA nv) 217)).heap.size=u.heap.size+1 by simp] at this h2
  exact ⟨this,h2⟩
 rw[hw1]
 have hS1:=HS.out.call H1.out
 have m0':w1.cell? ⟨X.M,0,none⟩=some (.slice (some ⟨ub,uo,none⟩) nf uc):=by rw[<-HU.out.f];exact hS1.m.1.cell 0 rfl
 have u3':=(HU.out.at hS1 (uo+fn*7+3)).trans HU.out.r
 have fz:=HF.out.1.2
 have f9:=HF.out.1.1.cell 9 rfl
 have hm1:(((n:Nat):Int)<0)=False:=by simp
 have hif:=yk1 aa (ac=0) hform
 have lM:=hS1.m.1.1
 have lF:=HF.out.1.1.1
 clear hw1 m0 m23 u2 u4 hmk hS1 hMl hUl
 go_wp2_with fail
 refine wp_loop_rounds 1 ?_
 rw[rounds_succ];go_upto_region 11 with fail
 obtain ⟨w2,hw2⟩:∃ w2,w1.setCell ⟨u.heap.size+1,9,none⟩ (.slice aa n ac)=w2:=⟨_,rfl⟩
 have hb2:∀ k,k≠u.heap.size+1->w2.heap[k]?=w1.heap[k]?:=fun k hk=>by rw[<-hw2];exact Below.heap_setCell _ _ _ _ hk
 have hs2:w2.heap.size=u.heap.size+2:=by rw[<-hw2];simpa using HV.out.2.1
 have HF2:Hid (OwnB w2 (u.heap.size+1) (fZ X u.heap.size nv (fn:Int) (.slice aa n ac))/\BkT w2 (u.heap.size+1) 168):=by
  rw[<-hw2]
  exact ⟨HF.out.1.set (o:=9) (by show 9<13;omega) (.slice aa n ac),HF.out.2.set _ _⟩
 have HV2:Hid (OwnB w2 u.heap.size (nvA nv)/\BkT w2 u.heap.size 217):=⟨HV.out.1.block (by have:=HV.out.2.1;omega) (hb2 _ (by omega)),HV.out.2.2.keep (hb2 _ (by omega))⟩
 have HB2:Hid (Below u.heap.size u w2):=by rw[<-hw2];exact H1.out.setCell (by simp) _
 rw[hw2]
 obtain ⟨F,hF⟩:∃ F,u.heap.size+1=F:=⟨_,rfl⟩
 have hS2:St X d w2:=HS.out.call HB2.out
 obtain ⟨i0,hy,hy0,hy1,hy2⟩:=info_parts qx5
 obtain ⟨v',w7,happ,hown,hgrow,_,hat⟩:=run_append_own_at (P:=Tryz.prog) (w2.alloc (.cells #[ptr (u.heap.size+1)] 125)) X.N 114 114 125 i0 _ 1 8 Tryz.underlying114 hy hy0 hy1 hy2 rfl (by decide) (.slice d.fa X.fl d.fc) X.fl d.fr (hS2.alloc _).fw ⟨w2.heap.size,0,none⟩ 1 1 [ptr (u.heap.size+1)] rfl (cell_one_new _ _ _) (by simp[Value.oneCell']) (by unfold maxLen;have:=HC.out;omega) (by have:=HC.out;omega) (hS2.alloc _).n
 obtain ⟨fa,fc,rfl⟩:=q33 hown
 have hS2a:=hS2.alloc (.cells #[ptr (u.heap.size+1)] 125)
 have hg':(w2.alloc (.cells #[ptr (u.heap.size+1)] 125)).grownBy w7 (bkOf d.fa):=by rw[q08] at hgrow;exact hgrow
 have hm:=hS2a.mids hg' (.inr (.inr (.inr rfl))) (fun q e=>q34 hS2a.fw e)
 have t7:=hS2.t.1.cell 7 rfl
 have t7':=hm.2.1.1.cell 7 rfl
 have tz':=hm.2.1.2
 have hfo:∀ k,bkOf d.fa=some k->k<u.heap.size:=fun k e=>(q09 HS.out.fw e).2
 have hk7:∀ k,u.heap.size<=k->k<w2.heap.size->w7.heap[k]?=w2.heap[k]?:=fun k h1 h2=>(hg'.block k (by simp;omega) (fun c=>by have:=hfo k c.symm;omega)).trans (Below.block (q01 _ _) _ h2)
 have hs7:=hg'.size
 simp at hs7
 have hl7:u.heap.size+2<w7.heap.size:=by omega
 have hlT:X.T<u.heap.size:=HS.out.t.1.1
 have HFin:Hid (Opened X d u (fn:Int) (.slice aa n ac) nv (u.heap.size+1) u.heap.size fa fc (w7.setCell ⟨X.T,7,none⟩ (.slice fa (X.fl+1) fc))):=by
  have hx:=HS.out.x
  have hWs:=HS.out.k.size
  have hTy:=hm.2.2.2.2
  have gset:=Gx.set w7 X.T 7 (.slice fa (X.fl+1) fc)
  have hTneR:∀ {t':TypeId} {N K m q c:Nat} {xs:List Value} {a:Option Addr},t'≠120->w7.ownsRow N t' K (.slice a m c) q xs->(w7.setCell ⟨X.T,7,none⟩ (.slice fa (X.fl+1) fc)).ownsRow N t' K (.slice a m c) q xs:=fun ht hh=>q16 hh _ fun k e=>(q34 hh ((q08 _ _ _).symm.trans e)).ne hTy.t ht
  have gu:Gx (fun k=>k=X.T\/bkOf d.fa=some k) u (w7.setCell ⟨X.T,7,none⟩ (.slice fa (X.fl+1) fc)):=((Gx.below _ (q49 HB2.out _)).trans (Gx.grown hg') (fun k _ e=>.inr e)).trans gset (fun k _ e=>.inl e)
  refine ⟨⟨⟨hx.m,hx.t,by show X.W.heap.size<=u.heap.size+1;omega,hWs,hx.nW,by show 0<X.fl+1;omega,by show X.fl+1<=1000;have:=HC.out;omega,hx.kt,hx.kd,hx.kc⟩,?_,?_,?_,?_,?_,?_,?_,World.ownsRow_nil _ _ _ _,?_,?_,?_,?_,?_⟩,gu,by omega,Nat.le_refl _,fun k hk e=>?_⟩
  ·exact q05 hm.1 (Ne.symm hTy.tm)
  ·exact hm.2.1.set (o:=7) (by show 7<17;omega) _
  ·exact q05 (HF2.out.1.block (by omega) (hk7 _ (by omega) (by omega))) (by show u.heap.size+1≠X.T;omega)
  ·show OwnB _ u.heap.size (nvA nv).toList.toArray
   rw[Array.toArray_toList]
   exact q05 (HV2.out.1.block (by omega) (hk7 _ (by omega) (by omega))) (by omega)
  ·exact hTneR (by decide) hown
  ·exact hTneR (by decide) (q55 hg' hS2a.rr (fun k e c=>q90 hS2a.rr hS2a.fw tyRF e c))
  ·exact hTneR (by decide) (q55 hg' hS2a.hr (fun k e c=>q90 hS2a.hr hS2a.fw tyVF e c))
  ·exact HS.out.k.trans gu (fun k _ e=>by
    rcases e with e|e
    ·exact .inr (e ▸ hx.t)
    ·exact .inr (Nat.le_trans hx.nW (q09 HS.out.fw e).1))
  ·have:=HS.out.n;simp;omega
  ·show (nvA nv).toList.length=nv
   simp[nvA,madeCells]
  ·exact ⟨hTy.m.set _ _,hTy.t.set _ _,(HF2.out.2.keep (hk7 _ (by omega) (by omega))).set _ _,(HV2.out.2.keep (hk7 _ (by omega) (by omega))).set _ _⟩
  ·have hlen:d.fr.length=X.fl:=by have:=HS.out.fw.1;omega
   show (d.fr++[ptr (u.heap.size+1)])[X.fl+1-1]?=_
   rw[List.getElem?_append_right (by omega),show X.fl+1-1 - d.fr.length=0 by omega]
   rfl
  ·have:=z38 hat (u:=w2.alloc (.cells #[ptr (u.heap.size+1)] 125)) (k:=k) (by simp;omega) e
   exact this
 have hT2:X.T<w2.heap.size:=by omega
 have hT7:X.T<w7.heap.size:=by omega
 clear hS2 hS2a hm hgrow hat hown hg' hk7 hs7 hl7 hfo hs2 hb2 hw2 hlT hF hy hy0 hy1 hy2 m0' u3' fz f9 lM lF hm1 hif
 go_wp2_with (at_builtin;refine q25 (by rfl) _ _ _ _ (by rfl) (.slice d.fa X.fl d.fc) (.slice (some ⟨w2.heap.size,0,none⟩) 1 1) _ _ (by rfl) (by rfl) happ ?_)
 exact bodyPost_ret (v:=ptr (u.heap.size+1)) (by simp[results,Tryz.results52,go_sem]) rfl ⟨_,_,_,_,rfl,HFin.out⟩
structure Par (X:RX) (d:MD) (w:World):Prop where
 x:X.ok
 f:OwnB w X.F (fA X d)
 v:OwnB w X.V d.vs.toArray
 sr:OwS X.N w d
 tf:BkT w X.F 168
 tv:BkT w X.V 217
 nv:d.vs.length=X.nv
 r0:d.fr[X.fl-1]?=some (.pointer (some ⟨X.F,0,none⟩))
 fl:d.fr.length=X.fl
def ParF (X:RX) (d:MD) (X':RX) (d':MD) (w:World):Prop:=Par X d w/\∀ k,(k=X.F\/k=X.V\/bkOf d.sa=some k)->¬stB X' d' k
theorem Par.gx {X:RX} {d:MD} {w w':World} (h:Par X d w) {S:Nat->Prop} (g:Gx S w w') (hn:∀ k,(k=X.F\/k=X.V\/bkOf d.sa=some k)->¬S k):Par X d w':=
 ⟨h.x,g.ownB h.f (hn _ (.inl rfl)),g.ownB h.v (hn _ (.inr (.inl rfl))),q14 h.sr fun k e=>g.block k (h.sr.lt k e).2 (hn k (.inr (.inr ((q08 _ _ _).symm.trans e)))),h.tf.keep (g.block _ h.tf.lt (hn _ (.inl rfl))),h.tv.keep (g.block _ h.tv.lt (hn _ (.inr (.inl rfl)))),h.nv,h.r0,h.fl⟩
theorem Par.lt {X:RX} {d:MD} {w:World} (h:Par X d w) {k:Nat} (e:k=X.F\/k=X.V\/bkOf d.sa=some k):k<w.heap.size:=by
 rcases e with rfl|rfl|e
 ·exact h.tf.lt
 ·exact h.tv.lt
 ·exact (q09 h.sr e).2
theorem ParF.step {X X':RX} {d d' d'':MD} {w w':World} (h:ParF X d X' d' w) (k:Sp X' d' w d'' w'):ParF X d X' d'' w':=
 ⟨h.1.gx k.g h.2,fun i e c=>h.2 i e (k.mv i (h.1.lt e) c)⟩
theorem St.par {X:RX} {d:MD} {u:World} (h:St X d u):Par X d u:=⟨h.x,h.f,h.v,h.sr,h.ty.f,h.ty.v,h.nv,h.r0,by have:=h.fw.1;omega⟩
theorem Par.ty {X:RX} {d:MD} {w:World} (h:Par X d w) {k:Nat} (e:k=X.F\/k=X.V\/bkOf d.sa=some k):∃ t,BkT w k t/\(t=168\/t=217\/t=3):=by
 rcases e with rfl|rfl|e
 ·exact ⟨_,h.tf,.inl rfl⟩
 ·exact ⟨_,h.tv,.inr (.inl rfl)⟩
 ·exact ⟨_,q34 h.sr e,.inr (.inr rfl)⟩
theorem Opened.par {X:RX} {d:MD} {u w':World} {fn:Int} {rest:Value} {nv F V fc:Nat} {fa:Option Addr} (h:St X d u) (o:Opened X d u fn rest nv F V fa fc w'):ParF X d (xO X F V fn rest nv) (dO d F nv fa fc) w':=by
 have hp:=h.par
 have hne:∀ {k q:Nat} {s:TypeId},(k=X.F\/k=X.V\/bkOf d.sa=some k)->BkT u q s->s≠168->s≠217->s≠3->k≠q:=fun e hq n1 n2 n3=>by
  obtain ⟨t,ht,hc⟩:=hp.ty e
  rcases hc with rfl|rfl|rfl
  ·exact ht.ne hq (Ne.symm n1)
  ·exact ht.ne hq (Ne.symm n2)
  ·exact ht.ne hq (Ne.symm n3)
 have hF:=o.F
 have hV:=o.V
 refine ⟨hp.gx o.g (fun k e c=>?_),fun k e c=>?_⟩
 ·rcases c with c|c
  ·exact hne e h.ty.t (by decide) (by decide) (by decide) c
  ·exact hne e (q34 h.fw c) (by decide) (by decide) (by decide) rfl
 ·have hk:=hp.lt e
  rcases c with c|c|c|c|c|c|c|c
  ·exact hne e h.ty.m (by decide) (by decide) (by decide) c
  ·exact hne e h.ty.t (by decide) (by decide) (by decide) c
  ·have:k=F:=c
   omega
  ·have:k=V:=c
   omega
  ·exact hne e (q34 h.rr c) (by decide) (by decide) (by decide) rfl
  ·exact hne e (q34 h.hr c) (by decide) (by decide) (by decide) rfl
  ·cases c
  ·exact hne e (q34 h.fw (o.fa k hk c)) (by decide) (by decide) (by decide) rfl
abbrev dBk (d d':MD):MD:={d' with sc:=d.sc,sa:=d.sa,sp:=d.sp,line:=d.line,vs:=d.vs,fr:=d.fr}
structure SameRun (X X':RX):Prop where
 M:X'.M=X.M
 T:X'.T=X.T
 N:X'.N=X.N
 W:X'.W=X.W
 fns:X'.fns=X.fns
 bod:X'.bod=X.bod
 tks:X'.tks=X.tks
 en:X'.en=X.en
 c1:X'.c1=X.c1
 c2:X'.c2=X.c2
 c3:X'.c3=X.c3
 tk:X'.tk=X.tk
 dp:X'.dp=X.dp
 ce:X'.ce=X.ce
 fl:X'.fl=X.fl+1
theorem SameRun.mA {X X':RX} (h:SameRun X X') (d d':MD):mA X' d'=mA X (Go.Proofs.YtaimofjekgnieaaGreatDoor.dBk d d'):=by
 simp[Go.Proofs.YtaimofjekgnieaaGreatDoor.mA,h.T,h.fns,h.bod,h.tks,h.en,h.tk,h.dp,h.ce]
theorem qr9 (X X':RX) (d d':MD) (w:World) (h:St X' d' w) (hs:SameRun X X') (hp:ParF X d X' d' w) (hfr:d'.fr=d.fr++[ptr X'.F]) :
  Calls Tryz.prog 291 #[ptr X.M,ptr X'.F] w fun e w'=>e=.returned (.tuple #[])/\St X (dBk d d') w'/\Gx (fun k=>k=X.T) w w':=by
 have f0:w.cell? ⟨X'.F,0,none⟩=some (ptr X.T):=by rw[<-hs.T];exact h.f.1.cell 0 rfl
 have t7:w.cell? ⟨X.T,7,none⟩=some (.slice d'.fa (X.fl+1) d'.fc):=by rw[<-hs.T,<-hs.fl];exact h.t.1.cell 7 rfl
 have tz:=h.t.2
 rw[hs.T] at tz
 have lF:=h.f.1.1
 have lT:=h.t.1.1
 rw[hs.T] at lT
 have hfl:=hp.1.x.f2
 have hFT:X'.F≠X.T:=by rw[<-hs.T];exact Ne.symm h.ty.tf
 have hcap:X.fl+1<=d'.fc/\∃ g,d'.fa=some ⟨g,0,none⟩:=by
  have hw:=h.fw
  rcases hw.2 with ⟨e,h0⟩|⟨g,cap,cur,e,_,hg,h5,_⟩
  ·have:=hs.fl;omega
  ·obtain ⟨e1,e3⟩:d'.fa=some ⟨g,0,none⟩/\d'.fc=cap:=by simpa using e
   exact ⟨by have:=hs.fl;omega,g,e1⟩
 obtain ⟨hc1,g,hg⟩:=hcap
 have HFin:Hid (St X (dBk d d') ((w.setCell ⟨X.T,7,none⟩ (.slice d'.fa X.fl d'.fc)).drew)/\Gx (fun k=>k=X.T) w ((w.setCell ⟨X.T,7,none⟩ (.slice d'.fa X.fl d'.fc)).drew)):=by
  have gs:Gx (fun k=>k=X.T) w (w.setCell ⟨X.T,7,none⟩ (.slice d'.fa X.fl d'.fc)):=Gx.set _ _ _ _
  have hP:=hp.1
  have hTT:BkT w X.T 120:=by rw[<-hs.T];exact h.ty.t
  have hTM:X.M≠X.T:=by rw[<-hs.T,<-hs.M];exact Ne.symm h.ty.tm
  have hro:∀ {t':TypeId} {N K m q c:Nat} {xs:List Value} {a:Option Addr},t'≠120->w.ownsRow N t' K (.slice a m c) q xs->(w.setCell ⟨X.T,7,none⟩ (.slice d'.fa X.fl d'.fc)).ownsRow N t' K (.slice a m c) q xs:=fun ht hh=>q16 hh _ fun k e=>(q34 hh ((q08 _ _ _).symm.trans e)).ne hTT ht
  have hP2:=hP.gx gs (fun k e c=>by
   obtain ⟨t,ht,hc⟩:=hP.ty e
   rcases hc with rfl|rfl|rfl
   ·exact ht.ne hTT (by decide) c
   ·exact ht.ne hTT (by decide) c
   ·exact ht.ne hTT (by decide) c)
  have hm:OwnB w X.M (mA X (dBk d d')):=by rw[<-hs.mA d d',<-hs.M];exact h.m
  have ht:OwnB w X.T (tA X' d'):=by rw[<-hs.T];exact h.t
  have ht2:=ht.set (o:=7) (by show 7<17;omega) (.slice d'.fa X.fl d'.fc)
  have hfw:w.ownsRow X.N 125 1 (.slice d'.fa X.fl d'.fc) X.fl d.fr:=by
   have h1:w.ownsRow X'.N 125 1 (.slice d'.fa X'.fl d'.fc) X'.fl d'.fr:=h.fw
   rw[hs.N,hs.fl] at h1
   have h2:=zf8 h1 (m:=X.fl) (by omega)
   rw[hfr,List.take_append_of_le_length (by have:=hP.fl;omega),List.take_of_length_le (by have:=hP.fl;omega)] at h2
   exact h2
  have hrr:OwR X.N w d':=by rw[<-hs.N];exact h.rr
  have hhr:OwH X.N w d':=by rw[<-hs.N];exact h.hr
  have hk:Gx (fun k=>k=X.M\/X.W.heap.size<=k) X.W w:=by rw[<-hs.M,<-hs.W];exact h.k
  have htm:BkT w X.M 81:=by rw[<-hs.M];exact h.ty.m
  refine ⟨St.drew ⟨hP.x,q05 hm hTM,?_,hP2.f,hP2.v,hro (by decide) hfw,hro (by decide) hrr,hro (by decide) hhr,hP2.sr,hk.trans gs (fun k _ e=>.inr (e ▸ hP.x.t)),?_,hP2.nv,⟨htm.set _ _,hTT.set _ _,hP2.tf,hP2.tv⟩,hP2.r0⟩,?_⟩
  ·have e:tA X (dBk d d')=(tA X' d').setIfInBounds 7 (.slice d'.fa X.fl d'.fc):=by
    simp[tA,hs.c1,hs.c2,hs.c3]
   rw[e]
   exact ht2
  ·have:=h.n
   rw[hs.N] at this
   simpa using this
  ·exact gs.trans (Gx.below (fun k=>k=X.T) (Below.refl _ _).drew) (fun _ _ e=>e)
 rw[hg] at t7 HFin
 clear h hs hp hfr hg
 obtain ⟨dd,hdd⟩:∃ dd,dBk d d'=dd:=⟨_,rfl⟩
 rw[hdd] at HFin
 rw[hdd]
 clear hdd
 generalize d'.fc=cap at *
 obtain ⟨q,hq⟩:∃ q,X.fl=q:=⟨_,rfl⟩
 rw[hq] at t7 HFin hc1 hfl
 clear hq
 have hc0:¬cap=0:=by omega
 have hw:IntKind.i64.wrap (q:Int)=(q:Int):=zs1 (by omega)
 have hle:q<=cap:=by omega
 clear hc1 hfl
 have f0':((w.setCell ⟨X.T,7,none⟩ (.slice (some ⟨g,0,none⟩) q cap)).drew).cell? ⟨X'.F,0,none⟩=some (ptr X.T):=(World.cell?_of_block (a:=⟨X'.F,0,none⟩) (Below.heap_setCell w ⟨X.T,7,none⟩ _ X'.F hFT)).trans f0
 clear hFT
 obtain ⟨F',hF'⟩:∃ F',X'.F=F':=⟨_,rfl⟩
 rw[hF'] at f0 f0' lF
 rw[hF']
 clear hF'
 go_enter Tryz.func291,Tryz.ntmps291
 go_wp2_with fail
 refine wp_region_held_drew (S:=fun w'=>w'.cell? ⟨F',0,none⟩=some (ptr X.T)) (by kernel_rfl) f0 (fun hHold=>?_)
 refine wpAnyH_take (i:=0) (oi:=⟨some 4,_,_,_,_,_⟩) (v:=?v1) rfl (by kernel_rfl) (by kernel_rfl) (by kernel_rfl) (fun _ _ _ h=>h) (Or.inl ⟨by rfl,?hy1⟩) (by assumption) ?rest1
 case hy1=>(intro wz hSw;(try dsimp only at hSw);go_simp<;>with_reducible rfl)
 try simp only[Act.put,zz1,zz2,zz3]
 refine wpAnyH_take (i:=1) (oi:=⟨some 5,_,_,_,_,_⟩) (v:=?v2) rfl (by kernel_rfl) (by kernel_rfl) (by kernel_rfl) (fun _ _ _ h=>h) (Or.inl ⟨by rfl,?hy2⟩) (by assumption) ?rest2
 case hy2=>(intro wz hSw;(try dsimp only at hSw);go_simp<;>with_reducible rfl)
 try simp only[Act.put,zz1,zz2,zz3]
 refine wpAnyH_take (i:=2) (oi:=⟨some 6,_,_,_,_,_⟩) (v:=?v3) rfl (by kernel_rfl) (by kernel_rfl) (by kernel_rfl) (fun _ _ _ h=>h) (Or.inl ⟨by rfl,?hy3⟩) (by assumption) ?rest3
 case hy3=>(intro wz hSw;(try dsimp only at hSw);go_simp<;>with_reducible rfl)
 try simp only[Act.put,zz1,zz2,zz3]
 refine wpAnyH_take (i:=3) (oi:=⟨some 7,_,_,_,_,_⟩) (v:=?v4) rfl (by kernel_rfl) (by kernel_rfl) (by kernel_rfl) (fun _ _ _ h=>h) (Or.inl ⟨by rfl,?hy4⟩) (by assumption) ?rest4
 case hy4=>(intro wz hSw;(try dsimp only at hSw);go_simp<;>with_reducible rfl)
 try simp only[Act.put,zz1,zz2,zz3]
 refine wpAnyH_take (i:=4) (oi:=⟨some 8,_,_,_,_,_⟩) (v:=?v5) rfl (by kernel_rfl) (by kernel_rfl) (by kernel_rfl) (fun _ _ _ h=>h) (Or.inl ⟨by rfl,?hy5⟩) (by assumption) ?rest5
 case hy5=>(intro wz hSw;(try dsimp only at hSw);go_simp<;>with_reducible rfl)
 try simp only[Act.put,zz1,zz2,zz3]
 refine wpAnyH_take (i:=5) (oi:=⟨some 9,_,_,_,_,_⟩) (v:=?v6) rfl (by kernel_rfl) (by kernel_rfl) (by kernel_rfl) (fun _ _ _ h=>h) (Or.inl ⟨by rfl,?hy6⟩) (by assumption) ?rest6
 case hy6=>(intro wz hSw;(try dsimp only at hSw);go_simp<;>with_reducible rfl)
 try simp only[Act.put,zz1,zz2,zz3]
 refine wpAnyH_take (i:=6) (oi:=⟨some 10,_,_,_,_,_⟩) (v:=?v7) rfl (by kernel_rfl) (by kernel_rfl) (by kernel_rfl) (fun _ _ _ h=>h) (Or.inl ⟨by rfl,?hy7⟩) (by assumption) ?rest7
 case hy7=>(intro wz hSw;(try dsimp only at hSw);go_simp<;>with_reducible rfl)
 try simp only[Act.put,zz1,zz2,zz3]
 refine wpAnyH_take (i:=7) (oi:=⟨some 11,_,_,_,_,_⟩) (v:=?v8) rfl (by kernel_rfl) (by kernel_rfl) (by kernel_rfl) (fun _ _ _ h=>h) (Or.inl ⟨by rfl,?hy8⟩) (by assumption) ?rest8
 case hy8=>(intro wz hSw;(try dsimp only at hSw);go_simp<;>with_reducible rfl)
 try simp only[Act.put,zz1,zz2,zz3]
 refine wpAnyH_take (i:=8) (oi:=⟨some 12,_,_,_,_,_⟩) (v:=?v9) rfl (by kernel_rfl) (by kernel_rfl) (by kernel_rfl) (fun _ _ _ h=>h) (Or.inl ⟨by rfl,?hy9⟩) (by assumption) ?rest9
 case hy9=>(intro wz hSw;(try dsimp only at hSw);go_simp<;>with_reducible rfl)
 try simp only[Act.put,zz1,zz2,zz3]
 refine wpAnyH_take (i:=9) (oi:=⟨some 13,_,_,_,_,_⟩) (v:=?v10) rfl (by kernel_rfl) (by kernel_rfl) (by kernel_rfl) (fun _ _ _ h=>h) (Or.inl ⟨by rfl,?hy10⟩) (by assumption) ?rest10
 case hy10=>(intro wz hSw;(try dsimp only at hSw);go_simp<;>with_reducible rfl)
 try simp only[Act.put,zz1,zz2,zz3]
 refine wpAnyH_take (i:=11) (oi:=⟨some 15,_,_,_,_,_⟩) (v:=?v11) rfl (by kernel_rfl) (by kernel_rfl) (by kernel_rfl) (fun _ _ _ h=>h) (Or.inl ⟨by rfl,?hy11⟩) (by assumption) ?rest11
 case hy11=>(intro wz hSw;(try dsimp only at hSw);go_simp<;>with_reducible rfl)
 try simp only[Act.put,zz1,zz2,zz3]
 refine wpAnyH_take (i:=12) (oi:=⟨some 16,_,_,_,_,_⟩) (v:=?v12) rfl (by kernel_rfl) (by kernel_rfl) (by kernel_rfl) (fun _ _ _ h=>h) (Or.inl ⟨by rfl,?hy12⟩) (by assumption) ?rest12
 case hy12=>(intro wz hSw;(try dsimp only at hSw);go_simp<;>with_reducible rfl)
 try simp only[Act.put,zz1,zz2,zz3]
 refine wpAnyH_take (i:=13) (oi:=⟨some 17,_,_,_,_,_⟩) (v:=?v13) rfl (by kernel_rfl) (by kernel_rfl) (by kernel_rfl) (fun _ _ _ h=>h) (Or.inl ⟨by rfl,?hy13⟩) (by assumption) ?rest13
 case hy13=>(intro wz hSw;(try dsimp only at hSw);go_simp<;>with_reducible rfl)
 try simp only[Act.put,zz1,zz2,zz3]
 refine wpAnyH_take (i:=14) (oi:=⟨some 18,_,_,_,_,_⟩) (v:=?v14) rfl (by kernel_rfl) (by kernel_rfl) (by kernel_rfl) (fun _ _ _ h=>h) (Or.inl ⟨by rfl,?hy14⟩) (by assumption) ?rest14
 case hy14=>(intro wz hSw;(try dsimp only at hSw);go_simp<;>with_reducible rfl)
 try simp only[Act.put,zz1,zz2,zz3]
 refine wpAnyH_take (i:=15) (oi:=⟨some 19,_,_,_,_,_⟩) (v:=?v15) rfl (by kernel_rfl) (by kernel_rfl) (by kernel_rfl) (fun _ _ _ h=>h) (Or.inl ⟨by rfl,?hy15⟩) (by assumption) ?rest15
 case hy15=>(intro wz hSw;(try dsimp only at hSw);go_simp<;>with_reducible rfl)
 try simp only[Act.put,zz1,zz2,zz3]
 refine wpAnyH_take (i:=16) (oi:=⟨some 20,_,_,_,_,_⟩) (v:=?v16) rfl (by kernel_rfl) (by kernel_rfl) (by kernel_rfl) (fun _ _ _ h=>h) (Or.inl ⟨by rfl,?hy16⟩) (by assumption) ?rest16
 case hy16=>(intro wz hSw;(try dsimp only at hSw);go_simp<;>with_reducible rfl)
 try simp only[Act.put,zz1,zz2,zz3]
 refine wpAnyH_ready (rs:=[10,17]) (by kernel_rfl) (by simp) ?_
 refine AllReadyH.cons (o:=⟨some 14,_,_,_,_,_⟩) rfl (fun K hK=>?_) (AllReadyH.cons (o:=⟨some 21,_,_,_,_,_⟩) rfl (fun K hK=>?_) AllReadyH.nil)
 ·go_simp
  refine hK.out _ _ f0 (fun hHeld=>?_)
  clear hK K hHold
  have hHold:=hHeld
  clear hHeld
  try simp only[Act.put,zz1,zz2,zz3]
  refine wpAnyH_ready (rs:=[17]) (by kernel_rfl) (by simp) ?_
  refine AllReadyH.cons (o:=⟨some 21,_,_,_,_,_⟩) rfl (fun K hK=>?_) AllReadyH.nil
  go_simp
  refine hK.out _ _ f0 (fun hHeld=>?_)
  clear hK K hHold
  have hHold:=hHeld
  clear hHeld
  try simp only[Act.put,zz1,zz2,zz3]
  refine wpAnyH_take (i:=18) (oi:=⟨some 22,_,_,_,_,_⟩) (v:=?v17) rfl (by kernel_rfl) (by kernel_rfl) (by kernel_rfl) (fun _ _ _ h=>h) (Or.inl ⟨by rfl,?hy17⟩) (by assumption) ?rest17
  case hy17=>(intro wz hSw;(try dsimp only at hSw);go_simp<;>with_reducible rfl)
  try simp only[Act.put,zz1,zz2,zz3]
  refine wpAnyH_take (i:=19) (oi:=⟨some 23,_,_,_,_,_⟩) (v:=?v18) rfl (by kernel_rfl) (by kernel_rfl) (by kernel_rfl) (fun _ _ _ h=>h) (Or.inl ⟨by rfl,?hy18⟩) (by assumption) ?rest18
  case hy18=>(intro wz hSw;(try dsimp only at hSw);go_simp<;>with_reducible rfl)
  try simp only[Act.put,zz1,zz2,zz3]
  refine wpAnyH_take (i:=20) (oi:=⟨some 24,_,_,_,_,_⟩) (v:=?v19) rfl (by kernel_rfl) (by kernel_rfl) (by kernel_rfl) (fun _ _ _ h=>h) (Or.inl ⟨by rfl,?hy19⟩) (by assumption) ?rest19
  case hy19=>(intro wz hSw;(try dsimp only at hSw);go_simp<;>with_reducible rfl)
  try simp only[Act.put,zz1,zz2,zz3]
  refine wpAnyH_take (i:=21) (oi:=⟨some 25,_,_,_,_,_⟩) (v:=?v20) rfl (by kernel_rfl) (by kernel_rfl) (by kernel_rfl) (fun _ _ _ h=>h) (Or.inl ⟨by rfl,?hy20⟩) (by assumption) ?rest20
  case hy20=>(intro wz hSw;(try dsimp only at hSw);go_simp<;>with_reducible rfl)
  try simp only[Act.put,zz1,zz2,zz3]
  refine wpAnyH_take (i:=22) (oi:=⟨some 26,_,_,_,_,_⟩) (v:=?v21) rfl (by kernel_rfl) (by kernel_rfl) (by kernel_rfl) (fun _ _ _ h=>h) (Or.inl ⟨by rfl,?hy21⟩) (by assumption) ?rest21
  case hy21=>(intro wz hSw;(try dsimp only at hSw);go_simp<;>with_reducible rfl)
  try simp only[Act.put,zz1,zz2,zz3]
  refine wpAnyH_ready (rs:=[23]) (by kernel_rfl) (by simp) ?_
  refine AllReadyH.cons (o:=⟨none,_,_,_,_,_⟩) rfl (fun K hK=>?_) AllReadyH.nil
  go_simp
  refine hK.out _ _ f0' (fun hHeld=>?_)
  clear hK K hHold
  have hHold:=hHeld
  clear hHeld
  try simp only[Act.put,zz1,zz2,zz3]
  refine wpAnyH_done (by kernel_rfl) ?_ _
  go_end0
  exact ⟨rfl,HFin.out⟩
 ·go_simp
  refine hK.out _ _ f0 (fun hHeld=>?_)
  clear hK K hHold
  have hHold:=hHeld
  clear hHeld
  try simp only[Act.put,zz1,zz2,zz3]
  refine wpAnyH_take (i:=18) (oi:=⟨some 22,_,_,_,_,_⟩) (v:=?v22) rfl (by kernel_rfl) (by kernel_rfl) (by kernel_rfl) (fun _ _ _ h=>h) (Or.inl ⟨by rfl,?hy22⟩) (by assumption) ?rest22
  case hy22=>(intro wz hSw;(try dsimp only at hSw);go_simp<;>with_reducible rfl)
  try simp only[Act.put,zz1,zz2,zz3]
  refine wpAnyH_take (i:=19) (oi:=⟨some 23,_,_,_,_,_⟩) (v:=?v23) rfl (by kernel_rfl) (by kernel_rfl) (by kernel_rfl) (fun _ _ _ h=>h) (Or.inl ⟨by rfl,?hy23⟩) (by assumption) ?rest23
  case hy23=>(intro wz hSw;(try dsimp only at hSw);go_simp<;>with_reducible rfl)
  try simp only[Act.put,zz1,zz2,zz3]
  refine wpAnyH_ready (rs:=[10]) (by kernel_rfl) (by simp) ?_
  refine AllReadyH.cons (o:=⟨some 14,_,_,_,_,_⟩) rfl (fun K hK=>?_) AllReadyH.nil
  go_simp
  refine hK.out _ _ f0 (fun hHeld=>?_)
  clear hK K hHold
  have hHold:=hHeld
  clear hHeld
  try simp only[Act.put,zz1,zz2,zz3]
  refine wpAnyH_take (i:=20) (oi:=⟨some 24,_,_,_,_,_⟩) (v:=?v24) rfl (by kernel_rfl) (by kernel_rfl) (by kernel_rfl) (fun _ _ _ h=>h) (Or.inl ⟨by rfl,?hy24⟩) (by assumption) ?rest24
  case hy24=>(intro wz hSw;(try dsimp only at hSw);go_simp<;>with_reducible rfl)
  try simp only[Act.put,zz1,zz2,zz3]
  refine wpAnyH_take (i:=21) (oi:=⟨some 25,_,_,_,_,_⟩) (v:=?v25) rfl (by kernel_rfl) (by kernel_rfl) (by kernel_rfl) (fun _ _ _ h=>h) (Or.inl ⟨by rfl,?hy25⟩) (by assumption) ?rest25
  case hy25=>(intro wz hSw;(try dsimp only at hSw);go_simp<;>with_reducible rfl)
  try simp only[Act.put,zz1,zz2,zz3]
  refine wpAnyH_take (i:=22) (oi:=⟨some 26,_,_,_,_,_⟩) (v:=?v26) rfl (by kernel_rfl) (by kernel_rfl) (by kernel_rfl) (fun _ _ _ h=>h) (Or.inl ⟨by rfl,?hy26⟩) (by assumption) ?rest26
  case hy26=>(intro wz hSw;(try dsimp only at hSw);go_simp<;>with_reducible rfl)
  try simp only[Act.put,zz1,zz2,zz3]
  refine wpAnyH_ready (rs:=[23]) (by kernel_rfl) (by simp) ?_
  refine AllReadyH.cons (o:=⟨none,_,_,_,_,_⟩) rfl (fun K hK=>?_) AllReadyH.nil
  go_simp
  refine hK.out _ _ f0' (fun hHeld=>?_)
  clear hK K hHold
  have hHold:=hHeld
  clear hHeld
  try simp only[Act.put,zz1,zz2,zz3]
  refine wpAnyH_done (by kernel_rfl) ?_ _
  go_end0
  exact ⟨rfl,HFin.out⟩
end Go.Proofs.YtaimofjekgnieaaGreatDoor
