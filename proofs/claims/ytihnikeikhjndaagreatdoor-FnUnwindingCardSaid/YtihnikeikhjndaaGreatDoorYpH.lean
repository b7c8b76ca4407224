import Derived.Test.YtihnikeikhjndaaGreatDoorYnU
import Derived.Test.YtihnikeikhjndaaGreatDoorJnA
set_option maxRecDepth 100000
set_option maxHeartbeats 16000000
namespace Go.Proofs.YtihnikeikhjndaaGreatDoor
section
open Go.RowKit
attribute [local go_sem] aN
attribute [local go_sem ↓] Go.wp_at_zero Go.wp_at_succ
def iW(q:DP)(way:Value)(d':MD)(_:World):Prop:=way=.nilIface/\d'.p=q
theorem y66(X:RX)(d:MD)(x1 r1 r2:Nat)(l:List VD)(q:DP)(u:World)(h:St X d u)(k1:Od X x1 #[qF r1 r2])(hall:Calls Tryz.prog 199 #[ptr X.F,ptr r1,ptr r2] u fun e w'=>bP X d u l q e w'):Calls Tryz.prog 174 #[ptr X.F,ptr x1] u fun e w'=>gG X d u (iW q) e w':=by
 have SV:Hid (Calls Tryz.prog 199 #[ptr X.F,ptr r1,ptr r2] u fun e w'=>bP X d u l q e w'):=hall;have b1:=(k1.at h).cell 0 rfl;have z1:=(k1.at h).1;clear h k1 hall;go_in;go_wp2_with fail;refine SV.mono ?_;rintro e w1 ⟨a,c,d1,rfl,h2,h3,h4,h5,h6⟩;have HF:Hid (gG X d u (iW q) (.returned .nilIface) w1):=⟨_,d1,rfl,h4,rfl,h5⟩;clear h2 h3 h4 h5 h6 b1 z1;go_wp2_with fail;go_ret;exact HF
theorem Wy(x:Value)(u:World):Calls Tryz.prog 55 #[.nilIface,x] u fun e w'=>e=.returned (.bool false)/\w'=u:=by
 go_in;go_wp2_with fail;go_ret;exact⟨rfl,rfl⟩
theorem qz9(w:World):(Instr.typeAssert .nilIface 128 118 true).run Tryz.prog w=.ok (.tuple #[.pointer none,.bool false]) w:=by kernel_rfl
theorem zb5(w:World):(Instr.typeAssert .nilIface 128 246 true).run Tryz.prog w=.ok (.tuple #[.pointer none,.bool false]) w:=by kernel_rfl
theorem qw0(u:World):Calls Tryz.prog 97 #[.nilIface] u fun e w'=>e=.returned .nilIface/\w'=u:=by
 have h1:=qz9;have h2:=zb5;go_in;go_wp2_with fail;go_ret;exact⟨rfl,rfl⟩
theorem iW.xw(N:Nat)(q:DP):KI N (iW q):=fun _ _ _ _ _ h _ _=>h
theorem qk0(u:World):Calls Tryz.prog 57 #[.nilIface] u fun e w'=>e=.returned (.slice none 0 0)/\ah u w':=by
 go_in;go_wp2_with fail;refine(qw0 _).mono ?_;rintro e w1 ⟨rfl,rfl⟩;go_wp2_with fail;refine(Wy _ _).mono ?_;rintro e w1 ⟨rfl,rfl⟩;go_wp2_with fail;go_ret;exact⟨rfl,q01 _ _⟩
theorem y34(p:Value)(w:World):CallsD Tryz.prog 49 #[p] .returning w fun e u' w'=>e=.returned (.tuple #[])/\u'=.returning/\w'=w:=by
 refine callsD_of_wpS Tryz.func49 rfl fun c₀ cs hu=>?_;apply wpS_seq;apply wpS_region;simp[wpOpsS,go_sem,recoverD,hu,Tryz.ntmps49,Exit.thenS];apply wpS_seq;apply wpS_region;simp[wpOpsS,go_sem,Exit.thenS,Act.eval,Array.replicate];refine wpS_cond (t:=false) (by simp[Act.eval]) ?_;simp only[Bool.false_eq_true,if_false];refine wpS_of_wp (wp_skip ?_)
 cases c₀;simp_all [bodyPostS,results,Tryz.results49]
def iZ(Q:List eP->Prop)(way:Value)(d':MD)(_:World):Prop:=way=.nilIface/\Q d'.recs
theorem iZ.G5(Q:List eP->Prop):∀way d' w',iZ Q way d' w'->way=.nilIface:=fun _ _ _ h=>h.1
theorem iZ.xw(N:Nat)(Q:List eP->Prop):KI N (iZ Q):=fun _ _ _ _ _ h _ _=>h
theorem iZ.ln{Q:List eP->Prop}{X:RX}{l:Int}{way:Value}{d':MD}{w':World}(h:jX X l (iZ Q) way d' w'):iZ Q way d' w':=by
 obtain⟨d4,w4,⟨h1,h2⟩,_,e⟩:=h;have:d'.recs=d4.recs:=congrArg DP.recs e;exact⟨h1,by rw[this];exact h2⟩
theorem ZR(X:RX)(d:MD)(x1 x2 nf bo bc k1:Nat)(R:Value->MD->World->Prop)(u:World)(h:St X d u)(b1:Bx X d u x1 #[ptr X.M])(b3:Bx X d u x2 #[ptr X.F])(jK:X.jB=.slice (some ⟨bo,0,none⟩) nf bc)(hfn:0<nf)(hb:Oo X bo 0 (nN k1))(hrun:∀w2,Sp X d u d w2->Calls Tryz.prog 170 #[ptr X.F,ptr k1] w2 fun e w'=>gG X d w2 R e w'):Calls Tryz.prog 54 #[ptr x1,ptr x2] u fun e w'=>gG X d u R e w':=by
 have HS:Hid (St X d u):=h;have jZ:Hid (∀w2,Sp X d u d w2->Calls Tryz.prog 170 #[ptr X.F,ptr k1] w2 fun e w'=>gG X d w2 R e w'):=hrun;have HK:Hid (∀d' w',Sp X d u d' w'->(w'.cell? ⟨x1,0,none⟩=some (ptr X.M)/\w'.cell? ⟨x2,0,none⟩=some (ptr X.F)/\w'.cell? ⟨X.M,7,none⟩=some (.slice (some ⟨bo,0,none⟩) nf bc)/\w'.cell? ⟨bo,0,none⟩=some (nN k1))):=fun d' w' k=>⟨(b1.step k).cell 0 rfl,(b3.step k).cell 0 rfl,by rw[<-jK];exact k.s.m.1.cell 7 rfl,hb.at k.s⟩;have S0:=HK.out d _ (Sp.refl HS.out).drew;have hi1:(0:Int)<(nf:Int):=by omega
 have hi2:((nf:Int)<=0)=False:=by simp;omega
 have hi3:(nf=0)=False:=by simp;omega
 clear h b1 b3 jK hb hrun;go_in;go_wp2_with fail
 go_region_held3 (fun w'=>w'.cell? ⟨x1,0,none⟩=some (ptr X.M)/\w'.cell? ⟨x2,0,none⟩=some (ptr X.F)/\w'.cell? ⟨X.M,7,none⟩=some (.slice (some ⟨bo,0,none⟩) nf bc)/\w'.cell? ⟨bo,0,none⟩=some (nN k1)) (first|exact S0|exact S1) (first|(go_at_call 170;refine(jZ _ (Sp.refl HS).drew).mono ?_;rintro e w1 ⟨way,d1,rfl,hs1,hr1⟩;have H1:Hid (gG X d u R (.returned way) w1):=⟨way,d1,rfl,(Sp.refl HS.out).drew.trans hs1,hr1⟩;have S1:=HK.out d1 w1 ((Sp.refl HS.out).drew.trans hs1);clear hs1 hr1))
 all_goals
  go_wp2_with fail;go_ret;exact H1
def Oe(X:RX)(w:World)(nv:Nat)(Q:List eP->Prop)(w':World):Prop:=∃F V N d',St (xT X F V N 0 (.slice none 0 0) nv) d' w'/\Q d'.recs/\Gx (fun k=>k=X.M\/k=X.T) w w'
theorem z02(X:RX)(nf ub uo uc nv vc bo bc k1:Nat)(va:Option Addr)(Q:List eP->Prop)(w:World)(h:Pm X w)(hU:UF X 0 nf ub uo uc nv vc va)(nH:nv<=1000)(jK:X.jB=.slice (some ⟨bo,0,none⟩) nf bc)(hb:Oo X bo 0 (nN k1))(hrun:∀F V N fa fc u,St (xT X F V N 0 (.slice none 0 0) nv) (dT F nv fa fc) u->Calls Tryz.prog 170 #[ptr F,ptr k1] u fun e w'=>gG (xT X F V N 0 (.slice none 0 0) nv) (dT F nv fa fc) u (iZ Q) e w'):Calls Tryz.prog 20 #[ptr X.M] w fun e w'=>e=.returned (.tuple #[])/\Oe X w nv Q w':=by
 have HP:Hid (Pm X w):=h;have HU:Hid (UF X 0 nf ub uo uc nv vc va/\nv<=1000/\X.jB=.slice (some ⟨bo,0,none⟩) nf bc/\Oo X bo 0 (nN k1)):=⟨hU,nH,jK,hb⟩;have HR:Hid (∀F V N fa fc u,St (xT X F V N 0 (.slice none 0 0) nv) (dT F nv fa fc) u->Calls Tryz.prog 170 #[ptr F,ptr k1] u fun e w'=>gG (xT X F V N 0 (.slice none 0 0) nv) (dT F nv fa fc) u (iZ Q) e w'):=hrun;have m1:w.cell? ⟨X.M,1,none⟩=some (.slice none 0 0):=h.m.1.cell 1 rfl;have kU:=h.m.1.1;have hTl:=h.t.1.1;clear h hU nH jK hb hrun;have hmf:=Dc
 go_enter_defers Tryz.func20,Tryz.ntmps20
 go_wp2_with fail;obtain⟨w1,hw1⟩:∃w1,w.alloc (.cells #[ptr X.M] 39)=w1:=⟨_,rfl⟩;have qL:Hid (Pm X w1/\OwnB w1 w.heap.size #[ptr X.M]/\w1.heap.size=w.heap.size+1/\ah w w1):=by
  rw[<-hw1];exact⟨HP.call (q01 _ _),OwnB.new _ _ _,by simp,q01 _ _⟩
 rw[hw1];have b0:=qL.2.1.1.cell 0 rfl;clear hw1 m1
 go_loopw [2,17] (fun v i wr=>v=.slice none 0 0/\i=.int .i64 0/\wr=w1) (fun _ _ _=>0)
 case atStart=>exact⟨rfl,rfl,rfl⟩
 case round=>
  obtain⟨rfl,rfl,rfl⟩:=hrel;go_wp2_with fail;refine Calls.mono (qr7 X 0 nf ub uo uc nv vc 0 0 va none _ qL.1 HU.1 HU.2.1 (Nat.le_refl _) (.inl rfl)) ?_;rintro e w2 ⟨F,V,fa,fc,rfl,hop⟩;obtain⟨X',hX'⟩:∃X',X'=xT X F V wr.heap.size 0 (.slice none 0 0) nv:=⟨_,rfl⟩;have hst:St X' (dT F nv fa fc) w2:=by rw[hX'];exact hop.s
  have HS2:Hid (St X' (dT F nv fa fc) w2/\Gx (fun k=>k=X.T) wr w2):=⟨hst,hop.g⟩;have hbs:wr.heap.size=w.heap.size+1:=qL.2.2.1;have hoF:=hop.F;have hoV:=hop.V;have XC:=hop.fa;have SA:Hid (∀k,k<wr.heap.size->stB X' (dT F nv fa fc) k->k=X.M\/k=X.T):=fun k hk e=>by
   subst hX';rcases e with e|e|e|e|e|e|e|e|e
   ·exact .inl e
   ·exact .inr e
   ·replace e:k=F:=e;omega
   ·replace e:k=V:=e;omega
   ·cases e
   ·cases e
   ·cases e
   ·have:=XC k e;omega
   ·exact False.elim e
  have nR:Hid (Bx X' (dT F nv fa fc) w2 w.heap.size #[ptr X.M]):=⟨hop.g.has qL.2.1.1 (fun e=>by omega),fun e=>by
   rcases SA.out _ (by omega) e with e|e<;>omega⟩
  have b2:=nR.cell 0 rfl;have hE:w.heap.size<w2.heap.size:=nR.1.1;have eM:X'.M=X.M:=by rw[hX']
  have eF:X'.F=F:=by rw[hX']
  have HX:Hid (X'=xT X F V wr.heap.size 0 (.slice none 0 0) nv):=hX';clear hop hst b0 hbs hoF hoV XC hX';go_wp2_with fail;have HB:Hid (Bx X' (dT F nv fa fc) (w2.alloc (.cells #[ptr F] 125)) w2.heap.size #[ptr X'.F]):=by rw[eF];exact Bx.new HS2.1 _ _
  have HAt:Hid (Calls Tryz.prog 53 #[ptr F,jA 54 #[ptr w.heap.size,ptr w2.heap.size]] (w2.alloc (.cells #[ptr F] 125)) fun e w'=>gG X' (dT F nv fa fc) (w2.alloc (.cells #[ptr F] 125)) (iZ Q) e w'):=by
   have hS:=HS2.1.alloc (.cells #[ptr F] 125);have hM:=nR.alloc (.cells #[ptr F] 125);rw[<-eM] at hM;have hz:=PI X' (dT F nv fa fc) (jA 54 #[ptr w.heap.size,ptr w2.heap.size]) (iZ Q) _ hS (WM X' (dT F nv fa fc) 54 #[ptr w.heap.size,ptr w2.heap.size] (iZ Q) _ hS (fun _ _=>rfl) (iZ.G5 Q) (iZ.xw _ Q) (fun w3 k3 _=>ZR X' (dT F nv fa fc) w.heap.size w2.heap.size nf bo bc k1 (iZ Q) w3 k3.s (hM.step k3) (HB.step k3) (by rw[HX.out];exact HU.2.2.1) (Nat.lt_of_le_of_lt (Nat.zero_le _) HU.1.i) (by rw[HX.out];exact HU.2.2.2) (fun w4 k4=>by
    have hr:=HR.out F V wr.heap.size fa fc w4 (by rw[<-HX.out];exact k4.s);rw[<-HX.out] at hr;rw[eF];exact hr)))
   rw[eF] at hz;exact hz.mono fun e w' ⟨way,d',he,hs,hr⟩=>⟨way,d',he,hs,iZ.ln hr⟩
  refine HAt.mono ?_;rintro e w3 ⟨way,d1,rfl,hs1,Qq,hq⟩;subst Qq;have H3:Hid (Sp X' (dT F nv fa fc) w2 d1 w3/\Q d1.recs):=⟨Sp.first HS2.1 hs1,hq⟩;clear hs1 hq b2 HB HAt;have b3:=(nR.step H3.1).cell 0 rfl;have hE3:w.heap.size<w3.heap.size:=(nR.step H3.1).1.1;go_wp2_with fail;refine(Wy _ _).mono ?_;rintro e w4 ⟨rfl,rfl⟩;go_wp2_with fail;refine(qk0 _).mono ?_;rintro e w4 ⟨rfl,hb4⟩;have H4:Hid (Sp X' (dT F nv fa fc) w2 d1 w4):=(H3.1.alloc _).call hb4;clear hb4 b3 hE3;go_wp2_with fail;have HG:Hid (Oe X w nv Q w4):=⟨F,V,wr.heap.size,d1,by rw[<-HX.out];exact H4.s,H3.2,((Gx.below _ qL.2.2.2).trans (HS2.2.mono (fun _ e=>.inr e)) (fun _ _ e=>e)).trans H4.g (fun k hk e=>SA.out k (by have:=qL.2.2.1;omega) e)⟩;clear H3 H4 HS2 nR qL SA HX hE eM eF
  go_loopw [61] (fun i wr=>i=.int .i64 0/\wr=w4) (fun _ _=>0)
  case atStart=>exact⟨rfl,rfl⟩
  case round=>
   obtain⟨rfl,rfl⟩:=hrel;go_wp2_with fail;refine leaves_cons (f:=49) (args:=#[ptr w.heap.size]) (by simp) (by simp[go_sem]) ?_;refine(y34 _ _).mono ?_;rintro e u' w'' ⟨rfl,rfl,rfl⟩;simp[Leaves,settle,results,Tryz.results20,go_sem];exact HG
end
end Go.Proofs.YtihnikeikhjndaaGreatDoor
