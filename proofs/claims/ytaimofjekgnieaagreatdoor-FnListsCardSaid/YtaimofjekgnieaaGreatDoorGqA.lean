import Derived.Test.YtaimofjekgnieaaGreatDoorGnO
import Derived.Test.YtaimofjekgnieaaGreatDoorGnU
set_option maxRecDepth 100000
set_option maxHeartbeats 16000000
namespace Go.Proofs.YtaimofjekgnieaaGreatDoor
open Go.RowKit
attribute [local go_sem] q00
attribute [local go_sem ↓] Go.wp_at_zero Go.wp_at_succ
abbrev dN:MD:=⟨[],none,0,0,.slice none 0 0,.slice none 0 0,[],none,0,[],none,0,0,[],0,0,.slice none 0 0,[],none,0⟩
abbrev x0 (X:RX):RX:={X with fl:=0}
structure Pm (X:RX) (w:World):Prop where
 m:OwnB w X.M (mA X dN)
 t:OwnB w X.T (tA (x0 X) dN)
 k:Gx (fun k=>k=X.M\/X.W.heap.size<=k) X.W w
 lm:X.M<X.W.heap.size
 lt:X.W.heap.size<=X.T
 ym:BkT w X.M 81
 yt:BkT w X.T 120
 kt:X.tk<=5000
 kd:X.dp<=60
 kc:X.ce<=20000
theorem Pm.call {X:RX} {u w:World} (h:Pm X u) (hb:Below u.heap.size u w):Pm X w:=
 ⟨h.m.block hb.size (hb.block _ h.m.1.1),h.t.block hb.size (hb.block _ h.t.1.1),h.k.trans (Gx.below (fun _=>False) hb) (fun _ _ e=>e.elim),h.lm,h.lt,h.ym.keep (hb.block _ h.m.1.1),h.yt.keep (hb.block _ h.t.1.1),h.kt,h.kd,h.kc⟩
theorem UF.at0 {X:RX} {fn nf ub uo uc nv vc:Nat} {va:Option Addr} (h:UF X fn nf ub uo uc nv vc va) {w:World} (s:Pm X w) (o:Nat):w.cell? ⟨ub,o,none⟩=X.W.cell? ⟨ub,o,none⟩:=World.cell?_of_block (a:=⟨ub,o,none⟩) (s.k.block ub h.lt (fun e=>by
 rcases e with e|e
 ·exact h.ne e
 ·have:=h.lt;omega))
abbrev xT (X:RX) (F V N:Nat) (fn:Int) (rest:Value) (nv:Nat):RX:={X with F:=F,V:=V,N:=N,fn:=fn,cal:=⟨0,0,0,⟨#[]⟩,0⟩,ups:=.slice none 0 0,rest:=rest,fl:=1,nv:=nv}
abbrev dT (F nv:Nat) (fa:Option Addr) (fc:Nat):MD:={dN with vs:=(nvA nv).toList,fr:=[ptr F],fa:=fa,fc:=fc}
structure Opened0 (X:RX) (u:World) (fn:Int) (rest:Value) (nv F V:Nat) (fa:Option Addr) (fc:Nat) (w':World):Prop where
 s:St (xT X F V u.heap.size fn rest nv) (dT F nv fa fc) w'
 g:Gx (fun k=>k=X.T) u w'
 F:u.heap.size<=F
 V:u.heap.size<=V
 fa:∀ k,bkOf fa=some k->u.heap.size<=k
theorem qp8 (X:RX) (fn nf ub uo uc nv vc n ac:Nat) (va aa:Option Addr) (u:World) (h:Pm X u) (hU:UF X fn nf ub uo uc nv vc va) (hnv:nv<=1000) (hac:n<=ac) (hform:aa=none\/∃ g,aa=some (⟨g,0,none⟩:Addr)) :
  Calls Tryz.prog 52 #[ptr X.M,.int .i64 (fn:Int),.slice aa n ac] u fun e w'=>∃ F V fa fc,e=.returned (ptr F)/\Opened0 X u (fn:Int) (.slice aa n ac) nv F V fa fc w':=by
 have HS:Hid (Pm X u):=h
 have HU:Hid (UF X fn nf ub uo uc nv vc va):=hU
 have m23:u.cell? ⟨X.M,23,none⟩=some (ptr X.T):=h.m.1.cell 23 rfl
 have m0:u.cell? ⟨X.M,0,none⟩=some (.slice (some ⟨ub,uo,none⟩) nf uc):=by rw[<-hU.f];exact h.m.1.cell 0 rfl
 have u2:=(hU.at0 h (uo+fn*7+2)).trans hU.p
 have u4:=(hU.at0 h (uo+fn*7+4)).trans hU.v
 have hi0:(0:Int)<=(fn:Int):=Int.natCast_nonneg _
 have hi1:(fn:Int)<(nf:Int):=by have:=hU.i;omega
 have hMl:=h.m.1.1
 have hUl:ub<u.heap.size:=Nat.lt_of_lt_of_le hU.lt h.k.size
 have hmk:∀ v:World,(Instr.makeSlice 165 (.int .i64 (nv:Int)) (.int .i64 (nv:Int))).run Tryz.prog v=.ok (.slice (some ⟨v.heap.size,0,none⟩) nv nv) (v.alloc (.cells (nvA nv) 217)):=fun v=>
  run_make_row' (P:=Tryz.prog) 165 217 (.pointer none) 8 Tryz.underlying165 zl6 rfl .i64 .i64 nv (by omega) (by omega) v
 have HC:Hid (nv<=1000/\n<=ac):=⟨hnv,hac⟩
 clear h hU hnv
 go_enter Tryz.func52,Tryz.ntmps52
 go_upto_region 4 with fail
 obtain ⟨w1,hw1⟩:∃ w1,(u.alloc (.cells (nvA nv) 217)).alloc (.cells (fZ X u.heap.size nv (fn:Int) (.slice none 0 0)) 168)=w1:=⟨_,rfl⟩
 have H1:Hid (Below u.heap.size u w1):=by rw[<-hw1];exact (q01 u _).alloc (by simp) _
 have HV:Hid (OwnB w1 u.heap.size (nvA nv)/\w1.heap.size=u.heap.size+2/\BkT w1 u.heap.size 217):=by
  rw[<-hw1]
  exact ⟨(OwnB.new u _ _).block (by simp) (Below.block (q01 _ _) _ (by simp)),by simp,(BkT.new u _ _).keep (Below.block (q01 _ _) _ (by simp))⟩
 have HF:Hid (OwnB w1 (u.heap.size+1) (fZ X u.heap.size nv (fn:Int) (.slice none 0 0))/\BkT w1 (u.heap.size+1) 168):=by
  rw[<-hw1]
  have:=OwnB.new (u.alloc (.cells (nvA nv) 217)) (fZ X u.heap.size nv (fn:Int) (.slice none 0 0)) 168
  have h2:=BkT.new (u.alloc (.cells (nvA nv) 217)) (fZ X u.heap.size nv (fn:Int) (.slice none 0 0)) 168
  rw[show (u.alloc (.cells (nvA nv) 217)).heap.size=u.heap.size+1 by simp] at this h2
  exact ⟨this,h2⟩
 rw[hw1]
 have hS1:=HS.out.call H1.out
 have m0':w1.cell? ⟨X.M,0,none⟩=some (.slice (some ⟨ub,uo,none⟩) nf uc):=by rw[<-HU.out.f];exact hS1.m.1.cell 0 rfl
 have u3':=(HU.out.at0 hS1 (uo+fn*7+3)).trans HU.out.r
 have fz:=HF.out.1.2
 have f9:=HF.out.1.1.cell 9 rfl
 have hm1:(((n:Nat):Int)<0)=False:=by simp
 have hif:=yk1 aa (ac=0) hform
 have lM:=hS1.m.1.1
 have lF:=HF.out.1.1.1
 clear hw1 m0 m23 u2 u4 hmk hS1 hMl hUl
 go_wp2_with fail
 refine wp_loop_rounds 1 ?_
 rw[rounds_succ];go_upto_region 11 with fail
 obtain ⟨w2,hw2⟩:∃ w2,w1.setCell ⟨u.heap.size+1,9,none⟩ (.slice aa n ac)=w2:=⟨_,rfl⟩
 have hb2:∀ k,k≠u.heap.size+1->w2.heap[k]?=w1.heap[k]?:=fun k hk=>by rw[<-hw2];exact Below.heap_setCell _ _ _ _ hk
 have hs2:w2.heap.size=u.heap.size+2:=by rw[<-hw2];simpa using HV.out.2.1
 have HF2:Hid (OwnB w2 (u.heap.size+1) (fZ X u.heap.size nv (fn:Int) (.slice aa n ac))/\BkT w2 (u.heap.size+1) 168):=by
  rw[<-hw2]
  exact ⟨HF.out.1.set (o:=9) (by show 9<13;omega) (.slice aa n ac),HF.out.2.set _ _⟩
 have HV2:Hid (OwnB w2 u.heap.size (nvA nv)/\BkT w2 u.heap.size 217):=⟨HV.out.1.block (by have:=HV.out.2.1;omega) (hb2 _ (by omega)),HV.out.2.2.keep (hb2 _ (by omega))⟩
 have HB2:Hid (Below u.heap.size u w2):=by rw[<-hw2];exact H1.out.setCell (by simp) _
 rw[hw2]
 have hS2:Pm X w2:=HS.out.call HB2.out
 obtain ⟨ta,hta⟩:∃ ta:Option Addr,Hid (ta=none):=⟨_,rfl⟩
 obtain ⟨tn,htn⟩:∃ tn:Nat,Hid (tn=0):=⟨_,rfl⟩
 obtain ⟨tc,htc⟩:∃ tc:Nat,Hid (tc=0):=⟨_,rfl⟩
 have htv:Hid (Value.slice none 0 0=.slice ta tn tc):=by rw[hta.out,htn.out,htc.out];exact rfl
 obtain ⟨i0,hy,hy0,hy1,hy2⟩:=info_parts qx5
 obtain ⟨v',w7,happ,hown,hgrow,_,hat⟩:=run_append_own_at (P:=Tryz.prog) (w2.alloc (.cells #[ptr (u.heap.size+1)] 125)) u.heap.size 114 114 125 i0 _ 1 8 Tryz.underlying114 hy hy0 hy1 hy2 rfl (by decide) (.slice none 0 0) 0 [] (World.ownsRow_nil _ _ _ _) ⟨w2.heap.size,0,none⟩ 1 1 [ptr (u.heap.size+1)] rfl (cell_one_new _ _ _) (by simp[Value.oneCell']) (by unfold maxLen;omega) (by omega) (by simp;omega)
 obtain ⟨fa,fc,rfl⟩:=q33 hown
 have hg7:∀ k,k<w2.heap.size->w7.heap[k]?=w2.heap[k]?:=fun k hk=>(hgrow.block k (by simp;omega) (by simp[Value.ownBlock])).trans (Below.block (q01 _ _) _ hk)
 have hs7:=hgrow.size
 simp at hs7
 have hlT:X.T<u.heap.size:=HS.out.t.1.1
 have hlM:X.M<u.heap.size:=HS.out.m.1.1
 have hT2o:OwnB w7 X.T (tA (x0 X) dN):=hS2.t.block (by omega) (hg7 _ (by omega))
 have t7:w2.cell? ⟨X.T,7,none⟩=some (.slice none 0 0):=hS2.t.1.cell 7 rfl
 have t7':w7.cell? ⟨X.T,7,none⟩=some (.slice none 0 0):=hT2o.1.cell 7 rfl
 have tz':=hT2o.2
 have HFin:Hid (Opened0 X u (fn:Int) (.slice aa n ac) nv (u.heap.size+1) u.heap.size fa fc (w7.setCell ⟨X.T,7,none⟩ (.slice fa (0+1) fc))):=by
  have hp:=HS.out
  have hWs:=hp.k.size
  have hMT:X.M≠X.T:=hp.ym.ne hp.yt (by decide)
  have yt7:BkT w7 X.T 120:=hS2.yt.keep (hg7 _ (by omega))
  have gu:Gx (fun k=>k=X.T) u (w7.setCell ⟨X.T,7,none⟩ (.slice fa (0+1) fc)):=(Gx.below _ ((q49 HB2.out _).grown hgrow (by simp;omega) (fun k e=>by cases e))).trans (Gx.set w7 X.T 7 _) (fun k _ e=>e)
  refine ⟨⟨⟨hp.lm,hp.lt,by show X.W.heap.size<=u.heap.size+1;omega,hWs,hWs,by show 0<1;omega,by show 1<=1000;omega,hp.kt,hp.kd,hp.kc⟩,?_,?_,?_,?_,?_,World.ownsRow_nil _ _ _ _,World.ownsRow_nil _ _ _ _,World.ownsRow_nil _ _ _ _,?_,?_,?_,?_,rfl⟩,gu,by omega,Nat.le_refl _,fun k e=>?_⟩
  ·exact q05 (hS2.m.block (by omega) (hg7 _ (by show X.M < _;omega))) hMT
  ·exact hT2o.set (o:=7) (by show 7<17;omega) _
  ·exact q05 (HF2.out.1.block (by omega) (hg7 _ (by omega))) (by show u.heap.size+1≠X.T;omega)
  ·show OwnB _ u.heap.size (nvA nv).toList.toArray
   rw[Array.toArray_toList]
   exact q05 (HV2.out.1.block (by omega) (hg7 _ (by omega))) (by omega)
  ·exact q16 hown _ fun k e=>(q34 hown ((q08 _ _ _).symm.trans e)).ne yt7 (by decide)
  ·exact hp.k.trans gu (fun k _ e=>.inr (e ▸ hp.lt))
  ·simp;omega
  ·show (nvA nv).toList.length=nv
   simp[nvA,madeCells]
  ·exact ⟨(hS2.ym.keep (hg7 _ (by show X.M < _;omega))).set _ _,yt7.set _ _,(HF2.out.2.keep (hg7 _ (by omega))).set _ _,(HV2.out.2.keep (hg7 _ (by omega))).set _ _⟩
  ·exact (q09 hown e).1
 have hT2:X.T<w2.heap.size:=by omega
 have hT7:X.T<w7.heap.size:=by omega
 rw[htv.out] at happ t7 t7'
 clear hS2 hgrow hat hown hg7 hs7 hs2 hb2 hw2 hlT hlM hT2o hy hy0 hy1 hy2 m0' u3' fz f9 lM lF hm1 hif htv
 go_wp2_with (at_builtin;refine q25 (by rfl) _ _ _ _ (by rfl) (.slice ta tn tc) (.slice (some ⟨w2.heap.size,0,none⟩) 1 1) _ _ (by rfl) (by rfl) happ ?_)
 refine bodyPost_ret (v:=ptr (u.heap.size+1)) (by simp[results,Tryz.results52,go_sem]) rfl ⟨u.heap.size+1,rfl,u.heap.size,fa,fc,?_⟩
 exact HFin.out
end Go.Proofs.YtaimofjekgnieaaGreatDoor
