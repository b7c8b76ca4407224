import Derived.Test.YtaimofjekgnieaaGreatDoorGqA
import Derived.Test.YtaimofjekgnieaaGreatDoorGpD
set_option maxRecDepth 100000
set_option maxHeartbeats 16000000
namespace Go.Proofs.YtaimofjekgnieaaGreatDoor
open Go.RowKit
attribute [local go_sem] q00
attribute [local go_sem ↓] Go.wp_at_zero Go.wp_at_succ
theorem qj7 (u:World):Calls Tryz.prog 57 #[.nilIface] u fun e w'=>e=.returned (.slice none 0 0)/\Below u.heap.size u w':=by
 go_enter Tryz.func57,Tryz.ntmps57
 go_wp2_with fail
 refine (qg2 _).mono ?_
 rintro e w1 ⟨rfl,rfl⟩
 go_wp2_with fail
 refine (qh0 _ _).mono ?_
 rintro e w1 ⟨rfl,rfl⟩
 go_wp2_with fail
 go_ret
 exact ⟨rfl,q01 _ _⟩
theorem y49 (p:Value) (w:World) :
  CallsD Tryz.prog 49 #[p] .returning w fun e u' w'=>e=.returned (.tuple #[])/\u'=.returning/\w'=w:=by
 refine callsD_of_wpS Tryz.func49 rfl fun c₀ cs hu=>?_
 apply wpS_seq
 apply wpS_region
 simp[wpOpsS,go_sem,recoverD,hu,Tryz.ntmps49,Exit.thenS]
 apply wpS_seq
 apply wpS_region
 simp[wpOpsS,go_sem,Exit.thenS,Act.eval,Array.replicate]
 refine wpS_cond (t:=false) (by simp[Act.eval]) ?_
 simp only[Bool.false_eq_true,if_false]
 refine wpS_of_wp (wp_skip ?_)
 cases c₀
 simp_all [bodyPostS,results,Tryz.results49]
def EndP (Q:List RcD->Prop) (way:Value) (d':MD) (_:World):Prop:=way=.nilIface/\Q d'.recs
theorem EndP.wayOk (Q:List RcD->Prop):qs8 (EndP Q):=fun _ _ _ h=>.inl h.1
theorem EndP.farOk (N:Nat) (Q:List RcD->Prop):z47 N (EndP Q):=fun _ _ _ _ _ h _ _=>h
theorem EndP.ln {Q:List RcD->Prop} {X:RX} {l:Int} {way:Value} {d':MD} {w':World} (h:LnTo X l (EndP Q) way d' w'):EndP Q way d' w':=by
 obtain ⟨d4,w4,⟨h1,h2⟩,_,e⟩:=h
 have:d'.recs=d4.recs:=congrArg DP.recs e
 exact ⟨h1,by rw[this];exact h2⟩
theorem zv0 (X:RX) (d:MD) (x1 x2 nf bo bc k1:Nat) (R:Value->MD->World->Prop) (u:World) (h:St X d u) (b1:Bx X d u x1 #[ptr X.M]) (b3:Bx X d u x2 #[ptr X.F]) (hbod:X.bod=.slice (some ⟨bo,0,none⟩) nf bc) (hfn:0<nf) (hb:Oo X bo 0 (bkV k1))
  (hrun:∀ w2,Sp X d u d w2->Calls Tryz.prog 163 #[ptr X.F,ptr k1] w2 fun e w'=>q11 X d w2 R e w') :
  Calls Tryz.prog 54 #[ptr x1,ptr x2] u fun e w'=>q11 X d u R e w':=by
 have HS:Hid (St X d u):=h
 have HRun:Hid (∀ w2,Sp X d u d w2->Calls Tryz.prog 163 #[ptr X.F,ptr k1] w2 fun e w'=>q11 X d w2 R e w'):=hrun
 have HK:Hid (∀ d' w',Sp X d u d' w'->(w'.cell? ⟨x1,0,none⟩=some (ptr X.M)/\w'.cell? ⟨x2,0,none⟩=some (ptr X.F)/\w'.cell? ⟨X.M,7,none⟩=some (.slice (some ⟨bo,0,none⟩) nf bc)/\w'.cell? ⟨bo,0,none⟩=some (bkV k1))):=fun d' w' k=>⟨(b1.step k).cell 0 rfl,(b3.step k).cell 0 rfl,by rw[<-hbod];exact k.s.m.1.cell 7 rfl,hb.at k.s⟩
 have S0:=HK.out d _ (Sp.refl HS.out).drew
 have hi1:(0:Int)<(nf:Int):=by omega
 have hi2:((nf:Int)<=0)=False:=by simp;omega
 have hi3:(nf=0)=False:=by simp;omega
 clear h b1 b3 hbod hb hrun
 go_enter Tryz.func54,Tryz.ntmps54
 go_wp2_with fail
 go_region_held3 (fun w'=>w'.cell? ⟨x1,0,none⟩=some (ptr X.M)/\w'.cell? ⟨x2,0,none⟩=some (ptr X.F)/\w'.cell? ⟨X.M,7,none⟩=some (.slice (some ⟨bo,0,none⟩) nf bc)/\w'.cell? ⟨bo,0,none⟩=some (bkV k1)) (first|exact S0|exact S1) (first|(go_at_call 163;refine (HRun.out _ (Sp.refl HS.out).drew).mono ?_;rintro e w1 ⟨way,d1,rfl,hs1,hr1⟩;have H1:Hid (q11 X d u R (.returned way) w1):=⟨way,d1,rfl,(Sp.refl HS.out).drew.trans hs1,hr1⟩;have S1:=HK.out d1 w1 ((Sp.refl HS.out).drew.trans hs1);clear hs1 hr1))
 all_goals
  go_wp2_with fail
  go_ret
  exact H1.out
def yi0 (X:RX) (w:World) (nv:Nat) (Q:List RcD->Prop) (w':World):Prop:=∃ F V N d',St (xT X F V N 0 (.slice none 0 0) nv) d' w'/\Q d'.recs/\Gx (fun k=>k=X.M\/k=X.T) w w'
theorem qz9 (X:RX) (nf ub uo uc nv vc bo bc k1:Nat) (va:Option Addr) (Q:List RcD->Prop) (w:World) (h:Pm X w) (hU:UF X 0 nf ub uo uc nv vc va) (hnv:nv<=1000) (hbod:X.bod=.slice (some ⟨bo,0,none⟩) nf bc) (hb:Oo X bo 0 (bkV k1))
  (hrun:∀ F V N fa fc u,St (xT X F V N 0 (.slice none 0 0) nv) (dT F nv fa fc) u->Calls Tryz.prog 163 #[ptr F,ptr k1] u fun e w'=>q11 (xT X F V N 0 (.slice none 0 0) nv) (dT F nv fa fc) u (EndP Q) e w') :
  Calls Tryz.prog 27 #[ptr X.M] w fun e w'=>e=.returned (.tuple #[])/\yi0 X w nv Q w':=by
 have HP:Hid (Pm X w):=h
 have HU:Hid (UF X 0 nf ub uo uc nv vc va/\nv<=1000/\X.bod=.slice (some ⟨bo,0,none⟩) nf bc/\Oo X bo 0 (bkV k1)):=⟨hU,hnv,hbod,hb⟩
 have HR:Hid (∀ F V N fa fc u,St (xT X F V N 0 (.slice none 0 0) nv) (dT F nv fa fc) u->Calls Tryz.prog 163 #[ptr F,ptr k1] u fun e w'=>q11 (xT X F V N 0 (.slice none 0 0) nv) (dT F nv fa fc) u (EndP Q) e w'):=hrun
 have m1:w.cell? ⟨X.M,1,none⟩=some (.slice none 0 0):=h.m.1.cell 1 rfl
 have hMl:=h.m.1.1
 have hTl:=h.t.1.1
 clear h hU hnv hbod hb hrun
 have hmf:=qf9
 go_enter_defers Tryz.func27,Tryz.ntmps27
 go_wp2_with fail
 obtain ⟨w1,hw1⟩:∃ w1,w.alloc (.cells #[ptr X.M] 39)=w1:=⟨_,rfl⟩
 have HP1:Hid (Pm X w1/\OwnB w1 w.heap.size #[ptr X.M]/\w1.heap.size=w.heap.size+1/\Below w.heap.size w w1):=by
  rw[<-hw1]
  exact ⟨HP.out.call (q01 _ _),OwnB.new _ _ _,by simp,q01 _ _⟩
 rw[hw1]
 have b0:=HP1.out.2.1.1.cell 0 rfl
 clear hw1 m1
 go_loopw [2,17] (fun v i wr=>v=.slice none 0 0/\i=.int .i64 0/\wr=w1) (fun _ _ _=>0)
 case atStart=>exact ⟨rfl,rfl,rfl⟩
 case round=>
  obtain ⟨rfl,rfl,rfl⟩:=hrel
  go_wp2_with fail
  refine Calls.mono (qp8 X 0 nf ub uo uc nv vc 0 0 va none _ HP1.out.1 HU.out.1 HU.out.2.1 (Nat.le_refl _) (.inl rfl)) ?_
  rintro e w2 ⟨F,V,fa,fc,rfl,hop⟩
  obtain ⟨X',hX'⟩:∃ X',X'=xT X F V wr.heap.size 0 (.slice none 0 0) nv:=⟨_,rfl⟩
  have hst:St X' (dT F nv fa fc) w2:=by rw[hX'];exact hop.s
  have HS2:Hid (St X' (dT F nv fa fc) w2/\Gx (fun k=>k=X.T) wr w2):=⟨hst,hop.g⟩
  have hbs:wr.heap.size=w.heap.size+1:=HP1.out.2.2.1
  have hoF:=hop.F
  have hoV:=hop.V
  have hoA:=hop.fa
  have HNB:Hid (∀ k,k<wr.heap.size->stB X' (dT F nv fa fc) k->k=X.M\/k=X.T):=fun k hk e=>by
   subst hX'
   rcases e with e|e|e|e|e|e|e|e
   ·exact .inl e
   ·exact .inr e
   ·replace e:k=F:=e
    omega
   ·replace e:k=V:=e
    omega
   ·cases e
   ·cases e
   ·cases e
   ·have:=hoA k e
    omega
  have HM2:Hid (Bx X' (dT F nv fa fc) w2 w.heap.size #[ptr X.M]):=⟨hop.g.has HP1.out.2.1.1 (fun e=>by omega),fun e=>by
   rcases HNB.out _ (by omega) e with e|e<;>omega⟩
  have b2:=HM2.out.cell 0 rfl
  have hE:w.heap.size<w2.heap.size:=HM2.out.1.1
  have eM:X'.M=X.M:=by rw[hX']
  have eF:X'.F=F:=by rw[hX']
  have HX:Hid (X'=xT X F V wr.heap.size 0 (.slice none 0 0) nv):=hX'
  clear hop hst b0 hbs hoF hoV hoA hX'
  go_wp2_with fail
  have HB:Hid (Bx X' (dT F nv fa fc) (w2.alloc (.cells #[ptr F] 125)) w2.heap.size #[ptr X'.F]):=by rw[eF];exact Bx.new HS2.out.1 _ _
  have HAt:Hid (Calls Tryz.prog 53 #[ptr F,rt2V w.heap.size w2.heap.size] (w2.alloc (.cells #[ptr F] 125)) fun e w'=>q11 X' (dT F nv fa fc) (w2.alloc (.cells #[ptr F] 125)) (EndP Q) e w'):=by
   have hS:=HS2.out.1.alloc (.cells #[ptr F] 125)
   have hM:=HM2.out.alloc (.cells #[ptr F] 125)
   rw[<-eM] at hM
   have hz:=za7 X' (dT F nv fa fc) w.heap.size w2.heap.size (EndP Q) _ hS (z58 X' (dT F nv fa fc) w.heap.size w2.heap.size (EndP Q) _ hS (EndP.wayOk Q) (EndP.farOk _ Q) (fun w3 k3 _=>zv0 X' (dT F nv fa fc) w.heap.size w2.heap.size nf bo bc k1 (EndP Q) w3 k3.s (hM.step k3) (HB.out.step k3) (by rw[HX.out];exact HU.out.2.2.1) (Nat.lt_of_le_of_lt (Nat.zero_le _) HU.out.1.i) (by rw[HX.out];exact HU.out.2.2.2) (fun w4 k4=>by
    have hr:=HR.out F V wr.heap.size fa fc w4 (by rw[<-HX.out];exact k4.s)
    rw[<-HX.out] at hr
    rw[eF]
    exact hr)))
   rw[eF] at hz
   exact hz.mono fun e w' ⟨way,d',he,hs,hr⟩=>⟨way,d',he,hs,EndP.ln hr⟩
  refine HAt.out.mono ?_
  rintro e w3 ⟨way,d1,rfl,hs1,hway,hq⟩
  subst hway
  have H3:Hid (Sp X' (dT F nv fa fc) w2 d1 w3/\Q d1.recs):=⟨Sp.first HS2.out.1 hs1,hq⟩
  clear hs1 hq b2 HB HAt
  have b3:=(HM2.out.step H3.out.1).cell 0 rfl
  have hE3:w.heap.size<w3.heap.size:=(HM2.out.step H3.out.1).1.1
  go_wp2_with fail
  refine (qh0 _ _).mono ?_
  rintro e w4 ⟨rfl,rfl⟩
  go_wp2_with fail
  refine (qj7 _).mono ?_
  rintro e w4 ⟨rfl,hb4⟩
  have H4:Hid (Sp X' (dT F nv fa fc) w2 d1 w4):=(H3.out.1.alloc _).call hb4
  clear hb4 b3 hE3
  go_wp2_with fail
  have HG:Hid (yi0 X w nv Q w4):=⟨F,V,wr.heap.size,d1,by rw[<-HX.out];exact H4.out.s,H3.out.2,((Gx.below _ HP1.out.2.2.2).trans (HS2.out.2.mono (fun _ e=>.inr e)) (fun _ _ e=>e)).trans H4.out.g (fun k hk e=>HNB.out k (by have:=HP1.out.2.2.1;omega) e)⟩
  clear H3 H4 HS2 HM2 HP1 HNB HX hE eM eF
  go_loopw [61] (fun i wr=>i=.int .i64 0/\wr=w4) (fun _ _=>0)
  case atStart=>exact ⟨rfl,rfl⟩
  case round=>
   obtain ⟨rfl,rfl⟩:=hrel
   go_wp2_with fail
   refine leaves_cons (f:=49) (args:=#[ptr w.heap.size]) (by simp) (by simp[go_sem]) ?_
   refine (y49 _ _).mono ?_
   rintro e u' w'' ⟨rfl,rfl,rfl⟩
   simp[Leaves,settle,results,Tryz.results27,go_sem]
   exact HG.out
end Go.Proofs.YtaimofjekgnieaaGreatDoor
