import Derived.Test.YtihnikeikhjndaaGreatDoorYnK
import Derived.Test.YtihnikeikhjndaaGreatDoorYnO
set_option maxRecDepth 100000
set_option maxHeartbeats 16000000
namespace Go.Proofs.YtihnikeikhjndaaGreatDoor
section
open Go.RowKit
attribute [local go_sem] aN
attribute [local go_sem ↓] Go.wp_at_zero Go.wp_at_succ
theorem y76(p q r:Value)(w:World):CallsD Tryz.prog 150 #[p,q,r] .returning w fun e u' w'=>e=.returned (.tuple #[])/\u'=.returning/\w'=w:=by
 refine callsD_of_wpS Tryz.func150 rfl fun c₀ cs hu=>?_;apply wpS_seq;apply wpS_region;simp[wpOpsS,go_sem,recoverD,hu,Tryz.ntmps150,Exit.thenS];apply wpS_seq;apply wpS_region;simp[wpOpsS,go_sem,Exit.thenS,Act.eval,Array.replicate];refine wpS_cond (t:=false) (by simp[Act.eval]) ?_;simp only[Bool.false_eq_true,if_false];refine wpS_of_wp (wp_skip ?_)
 cases c₀;simp_all [bodyPostS,results,Tryz.results150]
theorem Dc(fn:Fn)(first cap:Array Value)(w:World):(Instr.makeFunc fn first cap).run Tryz.prog w=.ok (.func fn first cap) w:=rfl
def KI(N:Nat)(R:Value->MD->World->Prop):Prop:=∀way d' w w' B,R way d' w->Gx (fun k=>k=B) w w'->B<N->R way d' w'
theorem WM(X:RX)(d:MD)(F:Nat)(cs:Array Value)(R:Value->MD->World->Prop)(u:World)(h:St X d u)(hE:Au F)(hW:∀way d' w',R way d' w'->way=.nilIface)(hF:KI (u.heap.size+3) R)(hrun:∀w2,Sp X d u d w2->w2.heap.size=u.heap.size+3->Calls Tryz.prog F cs w2 fun e w'=>gG X d w2 R e w'):Calls Tryz.prog 90 #[ptr X.T,jA F cs] u fun e w'=>gG X d u R e w':=by
 have HS:Hid (St X d u):=h;have HW:Hid (∀way d' w',R way d' w'->way=.nilIface):=hW;unfold Au at hE;have YN:Hid (KI (u.heap.size+3) R):=hF;have jZ:Hid (∀w2,Sp X d u d w2->w2.heap.size=u.heap.size+3->Calls Tryz.prog F cs w2 fun e w'=>gG X d w2 R e w'):=hrun;have t8:=h.t.1.cell 8 rfl;have hTl:=h.t.1.1;clear h hW hF hrun;have hmf:=Dc
 go_enter_defers Tryz.func90,Tryz.ntmps90
 go_wp2_with fail;have Fp:Hid (Sp X d u d (((u.alloc (.cells #[ptr X.T] 64)).alloc (.cells #[.nilIface] 128)).alloc (.cells #[.int .i64 (d.held.length:Int)] 3))):=(((Sp.refl HS.out).alloc _).alloc _).alloc _;clear hE;refine(jZ.out _ Fp.out (by simp)).mono ?_;rintro e w1 ⟨way,d1,rfl,hs1,hr1⟩;have H1:Hid (Sp X d u d1 w1/\R way d1 w1):=⟨Fp.trans hs1,hr1⟩;have HR:Hid (fB X d1 w1 (u.heap.size+1) #[.nilIface]):=by
  have h2:=(fB.new (HS.alloc (.cells #[ptr X.T] 64)) #[.nilIface] 128).alloc (.cells #[.int .i64 (d.held.length:Int)] 3);rw[World.size_alloc] at h2;exact h2.step hs1
 clear hs1 hr1 t8 hTl Fp;have r0:=HR.1.1.cell 0 rfl;have rz:=HR.1.2;have hwl:=HR.1.1.1;have HF:Hid (gG X d u R (.returned way) (w1.setCell ⟨u.heap.size+1,0,none⟩ way)):=⟨way,d1,rfl,Sp.beside HS.out H1.1 (Gx.set _ _ _ _) (by omega) HR.2,YN.out way d1 w1 _ (u.heap.size+1) H1.2 (Gx.set _ _ _ _) (by omega)⟩;have hwy:=HW.out way d1 w1 H1.2;clear HR H1 jZ YN HS;generalize MQ:u.heap.size=E at *;clear MQ;subst hwy;all_goals
  go_wp2_with fail;refine leaves_cons (f:=150) (args:=#[ptr (E+1),ptr E,ptr (E+1 + 1)]) (by simp) (by simp[go_sem]) ?_;refine(y76 _ _ _ _).mono ?_;rintro e u' w'' ⟨rfl,rfl,rfl⟩;simp[Leaves,settle,results,Tryz.results90,go_sem,r0];exact HF
theorem PI(X:RX)(d:MD)(fv:Value)(R:Value->MD->World->Prop)(u:World)(h:St X d u)(hat:Calls Tryz.prog 90 #[ptr X.T,fv] u fun e w'=>gG X d u R e w'):Calls Tryz.prog 53 #[ptr X.F,fv] u fun e w'=>gG X d u (jX X d.line R) e w':=by
 have HAt:Hid (Calls Tryz.prog 90 #[ptr X.T,fv] u fun e w'=>gG X d u R e w'):=hat;have f12:=h.f.1.cell 12 rfl;have f0:=h.f.1.cell 0 rfl;have lF:=h.f.1.1;clear h hat;go_in;go_wp2_with fail;refine HAt.mono ?_;rintro e w1 ⟨way,d1,rfl,hs1,hr1⟩;have H1:Hid (Sp X d u d1 w1/\R way d1 w1):=⟨hs1,hr1⟩;clear hs1 hr1 f12 f0 lF;have f12:=H1.1.s.f.1.cell 12 rfl;have fz:=H1.1.s.f.2;have lF:=H1.1.s.f.1.1;have HF:Hid (gG X d u (jX X d.line R) (.returned way) (w1.setCell ⟨X.F,12,none⟩ (.int .i64 d.line))):=⟨way,_,rfl,H1.1.trans (Sp.line H1.1.s d.line),d1,w1,H1.2,Sp.line H1.1.s d.line,rfl⟩;go_wp2_with fail;go_ret;exact HF
abbrev dN:MD:=⟨[],none,0,0,.slice none 0 0,.slice none 0 0,[],none,0,[],none,0,0,[],0,0,.slice none 0 0,[],none,0,.slice none 0 0,fun _=>False,fun _=>True⟩
abbrev x0(X:RX):RX:={X with fl:=0}
structure Pm(X:RX)(w:World):Prop where
 m:OwnB w X.M (mA X dN)
 t:OwnB w X.T (tA (x0 X) dN)
 k:Gx (fun k=>k=X.M\/X.W.heap.size<=k) X.W w
 lm:X.M<X.W.heap.size
 lt:X.W.heap.size<=X.T
 ym:dA w X.M 77
 yt:dA w X.T 120
 kt:X.tk<=5000
 kd:X.dp<=60
 kc:X.ce<=20000
theorem Pm.call{X:RX}{u w:World}(h:Pm X u)(hb:ah u w):Pm X w:=
 ⟨h.m.block hb.size (hb.block _ h.m.1.1),h.t.block hb.size (hb.block _ h.t.1.1),h.k.trans (Gx.below (fun _=>False) hb) (fun _ _ e=>e.elim),h.lm,h.lt,h.ym.keep (hb.block _ h.m.1.1),h.yt.keep (hb.block _ h.t.1.1),h.kt,h.kd,h.kc⟩
theorem UF.at0{X:RX}{fn nf ub uo uc nv vc:Nat}{va:Option Addr}(h:UF X fn nf ub uo uc nv vc va){w:World}(s:Pm X w)(o:Nat):w.cell? ⟨ub,o,none⟩=X.W.cell? ⟨ub,o,none⟩:=World.cell?_of_block (a:=⟨ub,o,none⟩) (s.k.block ub h.lt (fun e=>by
 rcases e with e|e
 ·exact h.ne e
 ·have:=h.lt;omega))
abbrev xT(X:RX)(F V N:Nat)(fn:Int)(rest:Value)(nv:Nat):RX:={X with F:=F,V:=V,N:=N,fn:=fn,cal:=⟨0,0,0,⟨#[]⟩,0⟩,ups:=.slice none 0 0,rest:=rest,fl:=1,nv:=nv}
abbrev dT(F nv:Nat)(fa:Option Addr)(fc:Nat):MD:={dN with vs:=(lu nv).toList,fr:=[ptr F],fa:=fa,fc:=fc}
structure tH(X:RX)(u:World)(fn:Int)(rest:Value)(nv F V:Nat)(fa:Option Addr)(fc:Nat)(w':World):Prop where
 s:St (xT X F V u.heap.size fn rest nv) (dT F nv fa fc) w'
 g:Gx (fun k=>k=X.T) u w'
 F:u.heap.size<=F
 V:u.heap.size<=V
 fa:∀k,aj fa=some k->u.heap.size<=k
theorem qr7(X:RX)(fn nf ub uo uc nv vc n ac:Nat)(va aa:Option Addr)(u:World)(h:Pm X u)(hU:UF X fn nf ub uo uc nv vc va)(nH:nv<=1000)(hac:n<=ac)(hform:aa=none\/∃g,aa=some (⟨g,0,none⟩:Addr)):Calls Tryz.prog 52 #[ptr X.M,.int .i64 (fn:Int),.slice aa n ac] u fun e w'=>∃F V fa fc,e=.returned (ptr F)/\tH X u (fn:Int) (.slice aa n ac) nv F V fa fc w':=by
 have HS:Hid (Pm X u):=h;have HU:Hid (UF X fn nf ub uo uc nv vc va):=hU;have m23:u.cell? ⟨X.M,23,none⟩=some (ptr X.T):=h.m.1.cell 23 rfl;have m0:u.cell? ⟨X.M,0,none⟩=some (.slice (some ⟨ub,uo,none⟩) nf uc):=by rw[<-hU.f];exact h.m.1.cell 0 rfl
 have u2:=(hU.at0 h (uo+fn*7+2)).trans hU.p;have u4:=(hU.at0 h (uo+fn*7+4)).trans hU.v;have hi0:(0:Int)<=(fn:Int):=Int.natCast_nonneg _;have hi1:(fn:Int)<(nf:Int):=by have:=hU.i;omega
 have kU:=h.m.1.1;have QJ:ub<u.heap.size:=Nat.lt_of_lt_of_le hU.lt h.k.size;have hmk:∀v:World,(Instr.makeSlice 171 (.int .i64 (nv:Int)) (.int .i64 (nv:Int))).run Tryz.prog v=.ok (.slice (some ⟨v.heap.size,0,none⟩) nv nv) (v.alloc (.cells (lu nv) 222)):=fun v=>
  run_make_row' (P:=Tryz.prog) 171 222 (.pointer none) 8 Tryz.underlying171 Ui rfl .i64 .i64 nv (by omega) (by omega) v
 have HC:Hid (nv<=1000/\n<=ac):=⟨nH,hac⟩;clear h hU nH;go_in
 go_upto_region 4 with fail
 obtain⟨w1,hw1⟩:∃w1,(u.alloc (.cells (lu nv) 222)).alloc (.cells (fZ X u.heap.size nv (fn:Int) (.slice none 0 0)) 174)=w1:=⟨_,rfl⟩;have H1:Hid (ah u w1):=by rw[<-hw1];exact(q01 u _).alloc (by simp) _
 have HV:Hid (OwnB w1 u.heap.size (lu nv)/\w1.heap.size=u.heap.size+2/\dA w1 u.heap.size 222):=by
  rw[<-hw1];exact⟨(OwnB.new u _ _).block (by simp) (Below.block (q01 _ _) _ (by simp)),by simp,(dA.new u _ _).keep (Below.block (q01 _ _) _ (by simp))⟩
 have HF:Hid (OwnB w1 (u.heap.size+1) (fZ X u.heap.size nv (fn:Int) (.slice none 0 0))/\dA w1 (u.heap.size+1) 174):=by
  rw[<-hw1];have:=OwnB.new (u.alloc (.cells (lu nv) 222)) (fZ X u.heap.size nv (fn:Int) (.slice none 0 0)) 174;have h2:=dA.new (u.alloc (.cells (lu nv) 222)) (fZ X u.heap.size nv (fn:Int) (.slice none 0 0)) 174;rw[show(u.alloc (.cells (lu nv) 222)).heap.size=u.heap.size+1 by simp] at this h2;exact⟨this,h2⟩
 rw[hw1];have hS1:=HS.call H1.out;have m0':w1.cell? ⟨X.M,0,none⟩=some (.slice (some ⟨ub,uo,none⟩) nf uc):=by rw[<-HU.f];exact hS1.m.1.cell 0 rfl
 have Oy:=(HU.at0 hS1 (uo+fn*7+3)).trans HU.r;have fz:=HF.1.2;have f9:=HF.1.1.cell 9 rfl;have hm1:(((n:Nat):Int)<0)=False:=by simp
 have hif:=yo4 aa (ac=0) hform;have lM:=hS1.m.1.1;have lF:=HF.1.1.1;clear hw1 m0 m23 u2 u4 hmk hS1 kU QJ;go_wp2_with fail;refine wp_loop_rounds 1 ?_;rw[rounds_succ];go_upto_region 11 with fail;obtain⟨w2,hw2⟩:∃w2,w1.setCell ⟨u.heap.size+1,9,none⟩ (.slice aa n ac)=w2:=⟨_,rfl⟩;have hb2:∀k,k≠u.heap.size+1->w2.heap[k]?=w1.heap[k]?:=fun k hk=>by rw[<-hw2];exact Below.heap_setCell _ _ _ _ hk
 have hs2:w2.heap.size=u.heap.size+2:=by rw[<-hw2];simpa using HV.2.1
 have HF2:Hid (OwnB w2 (u.heap.size+1) (fZ X u.heap.size nv (fn:Int) (.slice aa n ac))/\dA w2 (u.heap.size+1) 174):=by
  rw[<-hw2];exact⟨HF.1.set (o:=9) (by show 9<13;omega) (.slice aa n ac),HF.2.set _ _⟩
 have uH:Hid (OwnB w2 u.heap.size (lu nv)/\dA w2 u.heap.size 222):=⟨HV.1.block (by have:=HV.2.1;omega) (hb2 _ (by omega)),HV.2.2.keep (hb2 _ (by omega))⟩;have HB2:Hid (ah u w2):=by rw[<-hw2];exact H1.setCell (by simp) _
 rw[hw2];have hS2:Pm X w2:=HS.call HB2.out;obtain⟨ta,hta⟩:∃ta:Option Addr,Hid (ta=none):=⟨_,rfl⟩;obtain⟨tn,htn⟩:∃tn:Nat,Hid (tn=0):=⟨_,rfl⟩;obtain⟨tc,htc⟩:∃tc:Nat,Hid (tc=0):=⟨_,rfl⟩;have wV:Hid (Value.slice none 0 0=.slice ta tn tc):=by rw[hta.out,htn.out,htc.out];exact rfl
 obtain⟨i0,hy,hy0,hy1,hy2⟩:=info_parts VR;obtain⟨v',w7,happ,hown,hgrow,_,hat⟩:=run_append_own_at (P:=Tryz.prog) (w2.alloc (.cells #[ptr (u.heap.size+1)] 125)) u.heap.size 114 114 125 i0 _ 1 8 Tryz.underlying114 hy hy0 hy1 hy2 rfl (by decide) (.slice none 0 0) 0 [] (World.ownsRow_nil _ _ _ _) ⟨w2.heap.size,0,none⟩ 1 1 [ptr (u.heap.size+1)] rfl (cell_one_new _ _ _) (by simp[Value.oneCell']) (by unfold maxLen;omega) (by omega) (by simp;omega);obtain⟨fa,fc,rfl⟩:=sU hown;have lG:∀k,k<w2.heap.size->w7.heap[k]?=w2.heap[k]?:=fun k hk=>(hgrow.block k (by simp;omega) (by simp[Value.ownBlock])).trans (Below.block (q01 _ _) _ hk);have hs7:=hgrow.size;simp at hs7;have Qy:X.T<u.heap.size:=HS.t.1.1;have hlM:X.M<u.heap.size:=HS.m.1.1;have zN:OwnB w7 X.T (tA (x0 X) dN):=hS2.t.block (by omega) (lG _ (by omega));have t7:w2.cell? ⟨X.T,7,none⟩=some (.slice none 0 0):=hS2.t.1.cell 7 rfl;have VG:w7.cell? ⟨X.T,7,none⟩=some (.slice none 0 0):=zN.1.cell 7 rfl;have tz':=zN.2;have HFin:Hid (tH X u (fn:Int) (.slice aa n ac) nv (u.heap.size+1) u.heap.size fa fc (w7.setCell ⟨X.T,7,none⟩ (.slice fa (0+1) fc))):=by
  have hp:=HS.out;have hWs:=hp.k.size;have hMT:X.M≠X.T:=hp.ym.ne hp.yt (by decide);have UQ:dA w7 X.T 120:=hS2.yt.keep (lG _ (by omega));have gu:Gx (fun k=>k=X.T) u (w7.setCell ⟨X.T,7,none⟩ (.slice fa (0+1) fc)):=(Gx.below _ ((lW HB2.out _).grown hgrow (by simp;omega) (fun k e=>by cases e))).trans (Gx.set w7 X.T 7 _) (fun k _ e=>e);refine⟨⟨⟨hp.lm,hp.lt,by show X.W.heap.size<=u.heap.size+1;omega,hWs,hWs,by show 0<1;omega,by show 1<=1000;omega,hp.kt,hp.kd,hp.kc⟩,?_,?_,?_,?_,?_,World.ownsRow_nil _ _ _ _,World.ownsRow_nil _ _ _ _,World.ownsRow_nil _ _ _ _,?_,?_,?_,?_,rfl,⟨trivial,fun _ _ _ _ _=>trivial,fun k e=>e.elim⟩,fun k e=>e.elim⟩,gu,by omega,Nat.le_refl _,fun k e=>?_⟩
  ·exact fH (hS2.m.block (by omega) (lG _ (by show X.M < _;omega))) hMT
  ·exact zN.set (o:=7) (by show 7<17;omega) _
  ·exact fH (HF2.1.block (by omega) (lG _ (by omega))) (by show u.heap.size+1≠X.T;omega)
  ·show OwnB _ u.heap.size (lu nv).toList.toArray;rw[Array.toArray_toList];exact fH (uH.1.block (by omega) (lG _ (by omega))) (by omega)
  ·exact jh hown _ fun k e=>(jJ hown ((dD _ _ _).symm.trans e)).ne UQ (by decide)
  ·exact hp.k.trans gu (fun k _ e=>.inr (e ▸ hp.lt))
  ·simp;omega
  ·show(lu nv).toList.length=nv;simp[lu,madeCells]
  ·exact⟨(hS2.ym.keep (lG _ (by show X.M < _;omega))).set _ _,UQ.set _ _,(HF2.2.keep (lG _ (by omega))).set _ _,(uH.2.keep (lG _ (by omega))).set _ _⟩
  ·exact(q16 hown e).1
 have hT2:X.T<w2.heap.size:=by omega
 have hT7:X.T<w7.heap.size:=by omega
 rw[wV.out] at happ t7 VG;clear hS2 hgrow hat hown lG hs7 hs2 hb2 hw2 Qy hlM zN hy hy0 hy1 hy2 m0' Oy fz f9 lM lF hm1 hif wV;go_wp2_with (at_builtin;refine q32 (by rfl) _ _ _ _ (by rfl) (.slice ta tn tc) (.slice (some ⟨w2.heap.size,0,none⟩) 1 1) _ _ (by rfl) (by rfl) happ ?_);refine bodyPost_ret (v:=ptr (u.heap.size+1)) (by simp[results,Tryz.results52,go_sem]) rfl ⟨u.heap.size+1,rfl,u.heap.size,fa,fc,?_⟩;exact HFin
end
end Go.Proofs.YtihnikeikhjndaaGreatDoor
