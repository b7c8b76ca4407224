import Derived.Test.YtihnikeikhjndaaGreatDoorYnE
import Derived.Deep.Cut
set_option maxRecDepth 100000
set_option maxHeartbeats 16000000
namespace Go.Proofs.YtihnikeikhjndaaGreatDoor
section
open Go.RowKit
attribute [local go_sem] aN
attribute [local go_sem ↓] Go.wp_at_zero Go.wp_at_succ
theorem Zo:(Tryz.prog.info? 371).map (fun i=>(i.zero,i.size,i.bytes))=some (some (.pointer none),1,8):=by kernel_rfl
theorem zc9(k r:Int)(w:World):Calls Tryz.prog 312 #[.agg #[.int .i64 k,.int .i64 r]] w fun e w'=>e=.returned (dI k 0 0 ⟨#[]⟩ r)/\ah w w':=by
 go_in;go_wp2_with fail;refine bodyPost_ret (v:=dI k 0 0 ⟨#[]⟩ r) (by simp[results,Tryz.results312,go_sem]) rfl ⟨rfl,?_⟩
 with_reducible exact iy _ _ _
abbrev cA(fn:Int):Array Value:=#[.int .i64 fn,.slice none 0 0,.int .i64 0]
abbrev jM(j:Nat):VD:=⟨6,0,0,⟨#[]⟩,(j:Int)⟩
abbrev MD.fQ(d:MD)(cls:Value)(tb:Nat->Prop)(TP:World->Prop):MD:={d with cls:=cls,tb:=tb,TP:=TP}
def DP.fQ(p:DP)(cls:Value)(tb:Nat->Prop)(TP:World->Prop):DP:={p with cls:=cls,tb:=tb,TP:=TP}
theorem Sp.fQ{X:RX}{d:MD}{u w':World}{cls:Value}{tb:Nat->Prop}{TP:World->Prop}(h:St X d u)(g:Gx (fun k=>k=X.M\/d.tb k) u w')(hM:OwnB w' X.M (mA X (d.fQ cls tb TP)))(hY:dA w' X.M 77)(hT:yO X.N tb TP w')(hmv:∀k,k<u.heap.size->tb k->d.tb k):Sp X d u (d.fQ cls tb TP) w':=by
 have hx:=h.ty;have hs:∀k,kZ X d k->k<u.heap.size:=fun k e=>h.lt e.b;have hno:∀{B:Nat} {t:TypeId},dA u B t->t≠77->kZ X d B->¬(B=X.M\/d.tb B):=fun hb ht hr c=>by
  rcases c with c|c
  ·exact hb.ne hx.m ht c
  ·exact h.ts _ c hr
 have hrow:∀{t:TypeId} {K n m c:Nat} {a:Option Addr} {xs:List Value},u.ownsRow X.N t K (.slice a m c) n xs->t≠77->(∀k,aj a=some k->kZ X d k)->w'.ownsRow X.N t K (.slice a m c) n xs:=fun ho ht hr=>jS ho fun k e=>by
  have e':=(dD _ _ _).symm.trans e;exact g.block k (q16 ho e').2 (hno (jJ ho e') ht (hr k e'))
 refine⟨⟨h.x,hM,g.ownB h.t (hno hx.t (by decide) (.inr (.inl rfl))),g.ownB h.f (hno hx.f (by decide) (.inr (.inr (.inl rfl)))),g.ownB h.v (hno hx.v (by decide) (.inr (.inr (.inr (.inl rfl))))),hrow h.fw (by decide) (fun k e=>.inr (.inr (.inr (.inr (.inr (.inr (.inr e))))))),hrow h.rr (by decide) (fun k e=>.inr (.inr (.inr (.inr (.inl e))))),hrow h.hr (by decide) (fun k e=>.inr (.inr (.inr (.inr (.inr (.inl e)))))),hrow h.sr (by decide) (fun k e=>.inr (.inr (.inr (.inr (.inr (.inr (.inl e))))))),?_,Nat.le_trans h.n g.size,h.nv,?_,h.r0,hT,?_⟩,?_,?_⟩
 ·refine h.k.trans g (fun k _ e=>?_);rcases e with e|e
  ·exact .inl e
  ·exact .inr (Nat.le_trans h.x.nW (h.tt.a k e).1)
 ·exact⟨hY,hx.t.keep (g.block _ hx.t.lt (hno hx.t (by decide) (.inr (.inl rfl)))),hx.f.keep (g.block _ hx.f.lt (hno hx.f (by decide) (.inr (.inr (.inl rfl))))),hx.v.keep (g.block _ hx.v.lt (hno hx.v (by decide) (.inr (.inr (.inr (.inl rfl))))))⟩
 ·intro k e c;have c':kZ X d k:=c;exact h.ts k (hmv k (hs k c') e) c'
 ·exact g.mono (fun k e=>by
   rcases e with e|e
   ·exact .inl e
   ·exact stB.tb e)
 ·intro k hk e;rcases e.or with e|e
  ·have e':kZ X d k:=e;exact e'.b
  ·exact stB.tb (hmv k hk e)
def Tm(ca:Option Addr)(k:Nat):Prop:=aj ca=some k
def Aw(N:Nat)(ca:Option Addr)(cc:Nat)(cl:List Value)(w:World):Prop:=w.ownsRow N 371 1 (.slice ca cl.length cc) cl.length cl
structure lN(X:RX)(d:MD)(ca:Option Addr)(cc:Nat)(cl:List Value):Prop where
 c:d.cls=.slice ca cl.length cc
 b:∀k,aj ca=some k->d.tb k
 p:∀w,d.TP w->Aw X.N ca cc cl w
theorem lN.step{X:RX}{d d':MD}{ca:Option Addr}{cc:Nat}{cl:List Value}(o:lN X d ca cc cl)(h1:d'.cls=d.cls)(h2:d'.tb=d.tb)(h3:d'.TP=d.TP):lN X d' ca cc cl:=⟨h1.trans o.c,by rw[h2];exact o.b,by rw[h3];exact o.p⟩
theorem lN.own{X:RX}{d:MD}{ca:Option Addr}{cc:Nat}{cl:List Value}{u:World}(o:lN X d ca cc cl)(h:St X d u):Aw X.N ca cc cl u:=o.p u h.tt.p
theorem Aw.tbs{N:Nat}{ca:Option Addr}{cc:Nat}{cl:List Value}{w:World}(h:Aw N ca cc cl w):yO N (Tm ca) (Aw N ca cc cl) w:=
 ⟨h,fun _ _ h1 _ hk=>jS h1 fun k e=>hk k ((dD _ _ _).symm.trans e),fun _ e=>q16 h e⟩
theorem lN.at{X:RX}{d:MD}{ca:Option Addr}{cc:Nat}{cl:List Value}{u:World}(o:lN X d ca cc cl)(h:St X d u){j:Nat}{v:Value}(e:cl[j]?=some v):∃B,ca=some ⟨B,0,none⟩/\B<u.heap.size/\u.cell? ⟨B,j,none⟩=some v:=by
 have hw:=o.own h;rcases hw.2 with⟨_,h0⟩|⟨g,cap,cur,e1,_,hg,_⟩
 ·have:=(List.getElem?_eq_some_iff.1 e).1;omega
 ·obtain⟨e2,_⟩:ca=some ⟨g,0,none⟩/\cc=cap:=by simpa using e1
  subst e2;refine⟨g,rfl,(Array.getElem?_eq_some_iff.1 hg).1,?_⟩;have:=hw.cells (g:=g) rfl j v e
  cases j<;>simpa[Addr.add] using this
def Ar(X:RX)(d:MD)(u:World)(fn:Int)(cl:List Value)(p:DP)(e:Ending)(w':World):Prop:=∃C ca cc d',e=.returned (jM cl.length).v/\Sp X d u d' w'/\d'.p=p.fQ d'.cls d'.tb d'.TP/\lN X d' ca cc (cl++[ptr C])/\Bx X d' w' C (cA fn)/\u.heap.size<=C
theorem zc8(X:RX)(d:MD)(fn:Int)(ca:Option Addr)(cc:Nat)(cl:List Value)(u:World)(h:St X d u)(hc:lN X d ca cc cl)(hl:cl.length<=1000):Calls Tryz.prog 284 #[ptr X.M,.int .i64 fn,.slice none 0 0] u fun e w'=>Ar X d u fn cl d.p e w':=by
 have HS:Hid (St X d u):=h;have HC:Hid (lN X d ca cc cl):=hc;have m17:u.cell? ⟨X.M,17,none⟩=some (.slice ca cl.length cc):=by rw[<-hc.c];exact h.m.1.cell 17 rfl
 clear h hc;go_in
 go_upto_region 1 with fail
 obtain⟨w1,hw1⟩:∃w1,u.alloc (.cells z5 53)=w1:=⟨_,rfl⟩;have H0:Hid (u.heap.size<w1.heap.size/\OwnB w1 u.heap.size z5/\ah u w1):=by
  rw[<-hw1];exact⟨by simp,OwnB.new u _ _,q01 _ _⟩
 rw[hw1];obtain⟨w2,hw2⟩:∃w2,w1.alloc (.cells (cA fn) 373)=w2:=⟨_,rfl⟩;have H2:Hid (Has w2 w1.heap.size (cA fn)/\ah u w2/\w2.heap.size=w1.heap.size+1):=by
  rw[<-hw2];exact⟨Has.new _ _ _,lW H0.2.2 _,by simp⟩
 have zO:St X d (w2.alloc (.cells #[ptr w1.heap.size] 371)):=(HS.call H2.2.1).alloc _;have hbu:ah u (w2.alloc (.cells #[ptr w1.heap.size] 371)):=lW H2.2.1 _;have XR:=HC.own zO;obtain⟨i0,hy,hy0,hy1,hy2⟩:=info_parts Zo;obtain⟨v',w7,happ,hown,hgrow,_,hat⟩:=run_append_own_at (P:=Tryz.prog) (w2.alloc (.cells #[ptr w1.heap.size] 371)) X.N 62 62 371 i0 _ 1 8 Tryz.underlying62 hy hy0 hy1 hy2 rfl (by decide) (.slice ca cl.length cc) cl.length cl XR ⟨w2.heap.size,0,none⟩ 1 1 [ptr w1.heap.size] rfl (cell_one_new _ _ _) (by simp[Value.oneCell']) (by unfold maxLen;omega) (by omega) zO.n;obtain⟨a2,c2,rfl⟩:=sU hown;have DV:∀k,aj ca=some k->d.tb k:=HC.b;have hg':(w2.alloc (.cells #[ptr w1.heap.size] 371)).grownBy w7 (aj ca):=by rw[dD] at hgrow;exact hgrow
 have hMt:aj ca≠some X.M:=fun e=>zO.ts _ (DV _ e) (.inl rfl);have iR:OwnB w7 X.M (mA X d):=zO.m.block hg'.size (hg'.block _ zO.m.1.1 (fun e=>hMt e.symm));have qw:dA w7 X.M 77:=zO.ty.m.keep (hg'.block _ zO.ty.m.lt (fun e=>hMt e.symm));have QL:Aw X.N a2 c2 (cl++[ptr w1.heap.size]) w7:=by
  show w7.ownsRow _ _ _ (.slice a2 (cl++[ptr w1.heap.size]).length c2) (cl++[ptr w1.heap.size]).length _;rw[List.length_append];exact hown
 obtain⟨w8,hw8⟩:∃w8,w7.setCell ⟨X.M,17,none⟩ (.slice a2 (cl.length+1) c2)=w8:=⟨_,rfl⟩;have XP:Aw X.N a2 c2 (cl++[ptr w1.heap.size]) w8:=by
  rw[<-hw8];exact jh QL _ fun k e=>(jJ QL ((dD _ _ _).symm.trans e)).ne qw (by decide)
 have yL:Gx (fun k=>k=X.M\/d.tb k) (w2.alloc (.cells #[ptr w1.heap.size] 371)) w8:=by
  rw[<-hw8];exact((Gx.grown hg').mono (fun k e=>.inr (DV k e))).trans (Gx.set _ _ _ _) (fun k _ e=>.inl e)
 have Fj:Hid (Sp X d u (d.fQ (.slice a2 (cl.length+1) c2) (Tm a2) (Aw X.N a2 c2 (cl++[ptr w1.heap.size]))) w8):=by
  refine(Sp.below HS hbu).trans (Sp.fQ zO yL ?_ ?_ XP.tbs ?_)
  ·rw[<-hw8];exact iR.set (o:=17) (by show 17<27;omega) _
  ·rw[<-hw8];exact qw.set _ _
  ·intro k hk e;exact DV k (Dj hat hk e)
 have Y3:¬(w1.heap.size=X.M\/d.tb w1.heap.size):=fun c=>by
  rcases c with c|c
  ·have h1:X.M<u.heap.size:=HS.m.1.1;have:=H0.1;omega
  ·have h1:=(HS.tt.a _ c).2;have:=H0.1;omega
 have YA:Hid (∀k,u.heap.size<=k->k<w2.heap.size->¬stB X (d.fQ (.slice a2 (cl.length+1) c2) (Tm a2) (Aw X.N a2 c2 (cl++[ptr w1.heap.size]))) k):=fun k h1 h2 c=>by
  rcases c.or with c|c
  ·have c':kZ X d k:=c;have:=HS.lt c'.b;omega
  ·have h3:aj a2=some k:=c;have h4:=(HS.tt.a _ (DV k (Dj hat (by simp;omega) h3))).2;omega
 have NC:Hid (Has w8 w1.heap.size (cA fn)):=yL.has (H2.1.alloc _) Y3;have HZ:Hid (OwnB w8 u.heap.size z5):=by
  have h1:OwnB (w2.alloc (.cells #[ptr w1.heap.size] 371)) u.heap.size z5:=by
   have h2:=H0.2.1.block (w':=w2) (by have:=H2.2.2;omega) (by rw[<-hw2];exact Below.heap_alloc _ _ _ H0.1);exact h2.block (by simp) (Below.heap_alloc _ _ _ h2.1.1)
  refine yL.ownB h1 (fun c=>?_);rcases c with c|c
  ·have h3:X.M<u.heap.size:=HS.m.1.1;omega
  ·have h3:=(HS.tt.a _ c).2;omega
 have Qh:w1.cell? ⟨X.M,17,none⟩=some (.slice ca cl.length cc):=by rw[<-HC.c];exact(HS.call H0.2.2).m.1.cell 17 rfl
 have Qg:w7.cell? ⟨X.M,17,none⟩=some (.slice ca cl.length cc):=by rw[<-HC.c];exact iR.1.cell 17 rfl
 have mz:=iR.2;have hM1:=(HS.call H0.2.2).m.1.1;have IW:=iR.1.1;rw[H2.2.2,<-hw2] at happ;have Yq:Hid (w7.setCell ⟨X.M,17,none⟩ (.slice a2 (cl.length+1) c2)=w8):=hw8;clear hw1 hw8 yL XP QL qw iR hMt hg' DV hat hgrow hown XR hbu zO m17 hy hy0 hy1 hy2 Y3 hw2
 go_upto_region 2 with(at_builtin;refine q32 (by rfl) _ _ _ _ (by rfl) (.slice ca cl.length cc) (.slice (some ⟨w1.heap.size+1,0,none⟩) 1 1) _ _ (by rfl) (by rfl) happ ?_)
 rw[Yq.out];clear happ Qh Qg mz hM1 IW Yq;have m17:w8.cell? ⟨X.M,17,none⟩=some (.slice a2 (cl.length+1) c2):=Fj.s.m.1.cell 17 rfl;have hM8:=Fj.s.m.1.1;have hwr:IntKind.i64.wrap (((cl.length+1:Nat):Int)-1)=((cl.length:Nat):Int):=by
  rw[show(((cl.length+1:Nat):Int)-1)=((cl.length:Nat):Int) by omega];exact EJ (by omega)
 go_wp2_with fail;refine(zc9 6 (cl.length:Int) w8).mono ?_;rintro e w9 ⟨rfl,kR⟩;have hO:OwnB w9 u.heap.size z5:=HZ.block kR.size (kR.block _ HZ.1.1);have r0:=hO.1.cell 0 rfl;have r1:=hO.1.cell 1 rfl;have r2:=hO.1.cell 2 rfl;have r3:=hO.1.cell 3 rfl;have r4:=hO.1.cell 4 rfl;have rz:=hO.2;have Aj:Hid (ah w8 w9):=kR;have HFin:Hid (∀w6,Gx (fun k=>k=u.heap.size) w9 w6->Ar X d u fn cl d.p (.returned (jM cl.length).v) w6):=fun w6 wZ=>by
  have h0:=H0.1;have h2:=H2.2.2;refine⟨w1.heap.size,a2,c2,_,rfl,Sp.beside HS.out (Fj.call Aj.out) wZ (Nat.le_refl _) (YA.out _ (Nat.le_refl _) (by omega)),rfl,⟨?_,fun _ e=>e,fun _ h=>h⟩,⟨wZ.has (NC.call Aj.out) (by omega),YA.out _ (by omega) (by omega)⟩,by omega⟩;show Value.slice a2 (cl.length+1) c2=.slice a2 (cl++[ptr w1.heap.size]).length c2;simp
 clear hO kR m17 hM8 hwr;go_wp2_with fail;exact bodyPost_ret (v:=(jM cl.length).v) (by simp[results,Tryz.results284,go_sem,r0,r1,r2,r3,r4]) rfl (HFin.out _ (MS _ _ _ _ _ _ _))
theorem zl7(X:RX)(d:MD)(u:World)(h:St X d u)(hc:d.sin+1<=X.ce)(hm:d.fM<=100000):Calls Tryz.prog 281 #[ptr X.M,.int .i64 1] u fun e w'=>e=.returned (.tuple #[])/\To X d u (d.p.paid 1) w':=ZK X d 1 u h hc hm
theorem z29(X:RX)(d:MD)(b1 b2 b3:Nat)(ua:Option Addr)(uc:Nat)(fn:Int)(ca:Option Addr)(cc:Nat)(cl:List Value)(u:World)(h:St X d u)(k1:Od X b1 #[ptr X.M])(k2:Od X b2 #[.slice ua 0 uc])(k3:Od X b3 #[.int .i64 fn])(hc:lN X d ca cc cl)(hl:cl.length<=1000)(hs:d.sin+1<=X.ce)(hm:d.fM<=100000):Calls Tryz.prog 283 #[ptr X.F,ptr b1,ptr b2,ptr b3] u fun e w'=>Ar X d u fn cl (d.p.paid 1) e w':=by
 have HS:Hid (St X d u):=h;have HC:Hid (lN X d ca cc cl/\cl.length<=1000):=⟨hc,hl⟩;have HSi:Hid (d.sin+1<=X.ce):=hs;have HMa:Hid (d.fM<=100000):=hm;have Ag:Hid (Od X b1 #[ptr X.M]):=k1;have iY:Hid (Od X b2 #[.slice ua 0 uc]):=k2;have JH:Hid (Od X b3 #[.int .i64 fn]):=k3;have q1:=(k1.at h).cell 0 rfl;have q2:=(k2.at h).cell 0 rfl;have l1:=(k1.at h).1;have l2:=(k2.at h).1;clear h hc hs hm k1 k2 k3 hl;go_in;go_wp2_with fail;refine(zl7 X d _ (HS.alloc _) HSi HMa).mono ?_;rintro e w1 ⟨rfl,h1⟩;have HT:Hid (∃d1,Sp X d u d1 w1/\d1.p=d.p.paid 1/\fB X d1 w1 u.heap.size z5):=by
  obtain⟨d1,hs1,e1⟩:=h1;exact⟨d1,Sp.first HS hs1,e1,(fB.new HS _ _).step hs1⟩
 obtain⟨d1,H1⟩:∃d1,Hid (Sp X d u d1 w1/\d1.p=d.p.paid 1/\fB X d1 w1 u.heap.size z5):=HT.out;clear h1 HT q1 q2 l1 l2;have q1:=(Ag.at H1.1.s).cell 0 rfl;have q2:=(iY.at H1.1.s).cell 0 rfl;have q3:=(JH.at H1.1.s).cell 0 rfl;have l1:=(Ag.at H1.1.s).1;have l2:=(iY.at H1.1.s).1;have l3:=(JH.at H1.1.s).1;go_wp2_with fail;refine wp_loop_rounds 1 ?_;rw[rounds_succ];go_wp2_with fail;have JO:Hid (lN X d1 ca cc cl):=HC.1.step (congrArg DP.cls H1.2.1) (congrArg DP.tb H1.2.1) (congrArg DP.TP H1.2.1);refine(zc8 X d1 fn ca cc cl w1 H1.1.s JO HC.2).mono ?_;rintro e w2 ⟨C,a2,c2,d2,rfl,hs2,e2,ho2,hb2,hC2⟩;have HN:Hid (Sp X d1 w1 d2 w2/\d2.p=d1.p.fQ d2.cls d2.tb d2.TP/\lN X d2 a2 c2 (cl++[ptr C])/\Bx X d2 w2 C (cA fn)/\w1.heap.size<=C):=⟨hs2,e2,ho2,hb2,hC2⟩;have HR:Hid (fB X d2 w2 u.heap.size z5):=H1.2.2.step hs2;have r0:=HR.1.1.cell 0 rfl;have r1:=HR.1.1.cell 1 rfl;have r2:=HR.1.1.cell 2 rfl;have r3:=HR.1.1.cell 3 rfl;have r4:=HR.1.1.cell 4 rfl;have rz:=HR.1.2;have HFin:Hid (∀w6,Gx (fun k=>k=u.heap.size) w2 w6->Ar X d u fn cl (d.p.paid 1) (.returned (jM cl.length).v) w6):=fun w6 wZ=>by
  have hN:=HN.out;have hz:u.heap.size<w1.heap.size:=H1.2.2.1.1.1;have hc1:=hN.2.2.2.2;refine⟨C,a2,c2,d2,rfl,Sp.beside HS.out (H1.1.trans hN.1) wZ (Nat.le_refl _) HR.2,?_,hN.2.2.1,⟨wZ.has hN.2.2.2.1.1 (by omega),hN.2.2.2.1.2⟩,by omega⟩;rw[<-H1.2.1];exact hN.2.1
 clear hs2 e2 ho2 hb2 hC2;go_wp2_with fail;exact bodyPost_ret (v:=(jM cl.length).v) (by simp[results,Tryz.results283,go_sem,r0,r1,r2,r3,r4]) rfl (HFin.out _ (MS _ _ _ _ _ _ _))
theorem y75(g c n j:Nat)(v:VD)(u:World)(hj:j<n)(hg:g<u.heap.size)(h:∀i x,(v5 v)[i]?=some x->u.cell? ⟨g,j*5+i,none⟩=some x):Calls Tryz.prog 89 #[.slice (some ⟨g,0,none⟩) n c,.int .i64 (j:Int)] u fun e w'=>e=.returned v.v/\ah u w':=by
 have c0:u.cell? ⟨g,j*5,none⟩=some (.int .i64 v.k):=h 0 _ rfl;have c1:=h 1 _ rfl;have c2:=h 2 _ rfl;have c3:=h 3 _ rfl;have c4:=h 4 _ rfl;have hlt:((j:Int)<(n:Int)):=by omega
 have h0:(0:Int)<=(j:Int):=Int.natCast_nonneg _;clear h;go_in;go_wp2_with fail;exact bodyPost_ret (v:=v.v) (by simp[results,Tryz.results89,go_sem]) rfl ⟨rfl,q01 _ _⟩
def Bl(X:RX)(d:MD)(u:World)(g:Nat)(l:List VD):Prop:=(g<u.heap.size/\∀j v,(hL l)[j]?=some v->u.cell? ⟨g,j,none⟩=some v)/\¬stB X d g
theorem Bl.step{X:RX}{d d':MD}{u u':World}{g:Nat}{l:List VD}(h:Bl X d u g l)(k:Sp X d u d' u'):Bl X d' u' g l:=⟨⟨Nat.lt_of_lt_of_le h.1.1 k.g.size,fun j v hv=>(World.cell?_of_block (a:=⟨g,j,none⟩) (k.g.block _ h.1.1 h.2)).trans (h.1.2 j v hv)⟩,fun e=>h.2 (k.mv g h.1.1 e)⟩
theorem yp9(l:List VD)(j:Nat)(v:VD)(h:l[j]?=some v)(i:Nat)(x:Value)(hx:(v5 v)[i]?=some x):(hL l)[j*5+i]?=some x:=by
 induction l generalizing j with
 |nil=>simp at h
 |cons y l ih=>
  have hi:i<5:=by
   have:=(List.getElem?_eq_some_iff.1 hx).1;simpa[v5] using this
  cases j with
  |zero=>
   have hy:y=v:=by simpa using h
   subst hy;show(v5 y++hL l)[0*5+i]?=some x;rw[show 0*5+i=i by omega,List.getElem?_append_left (by simpa[v5] using hi)];exact hx
  |succ j=>
   have h':l[j]?=some v:=by simpa using h
   show(v5 y++hL l)[(j+1)*5+i]?=some x;rw[List.getElem?_append_right (by simp[v5];omega),show(j+1)*5+i-(v5 y).length=j*5+i by simp[v5];omega];exact ih j h'
theorem Bl.at{X:RX}{d:MD}{u:World}{g:Nat}{l:List VD}(h:Bl X d u g l){j:Nat}{v:VD}(hv:l[j]?=some v):∀i x,(v5 v)[i]?=some x->u.cell? ⟨g,j*5+i,none⟩=some x:=fun i x hx=>h.1.2 _ _ (yp9 l j v hv i x hx)
def DP.decl(p:DP)(l:List (Nat×Nat)):DP:=l.foldl (fun p x=>(p.var x.1 (ptr x.2)).scope (x.1:Int)) p
theorem DP.uD(p:DP)(l:List (Nat×Nat))(i q:Nat):p.decl (l++[(i,q)])=((p.decl l).var i (ptr q)).scope (i:Int):=by simp[DP.decl]
theorem DP.sW(p:DP)(l:List (Nat×Nat)):(p.decl l).sc.length=p.sc.length+l.length:=by
 induction l generalizing p with
 |nil=>rfl
 |cons x l ih=>
  show(DP.decl _ l).sc.length=_;rw[ih];simp[DP.var,DP.scope];omega
def Kq(X:RX)(d:MD)(u:World)(iv:List Nat)(l:List VD)(j:Nat)(w':World):Prop:=∃(qs:List (Nat×Nat)) (d':MD),qs.map Prod.fst=iv.take j/\Sp X d u d' w'/\d'.p=d.p.decl qs/\∀(i:Nat) (x:Nat×Nat) (v:VD),qs[i]?=some x->l[i]?=some v->Bx X d' w' x.2 (vA v)
theorem z27(X:RX)(d:MD)(rb ro rc g c n:Nat)(iv:List Nat)(l:List VD)(u:World)(h:St X d u)(hr:∀d' w',Sp X d u d' w'->∀(j i:Nat),iv[j]?=some i->w'.cell? ⟨rb,ro+j,none⟩=some (.int .i64 (i:Int)))(hiv:∀(j i:Nat),iv[j]?=some i->i<X.nv)(hg:Bl X d u g l)(hn:iv.length=n)(hl:l.length=n)(hn2:n<=100)(hsc:d.sc.length<=900):Calls Tryz.prog 88 #[ptr X.F,.slice (some ⟨rb,ro,none⟩) n rc,.slice (some ⟨g,0,none⟩) n c] u fun e w'=>e=.returned (.tuple #[])/\Kq X d u iv l n w':=by
 have HS:Hid (St X d u):=h;have HG:Hid (Bl X d u g l):=hg;have HR:Hid (∀d' w',Sp X d u d' w'->∀(j i:Nat),iv[j]?=some i->w'.cell? ⟨rb,ro+j,none⟩=some (.int .i64 (i:Int))):=hr;have HI:Hid (∀(j i:Nat),iv[j]?=some i->i<X.nv):=hiv;have HN:Hid (iv.length=n/\l.length=n):=⟨hn,hl⟩;have HC:Hid (d.sc.length<=900):=hsc;clear h hg hr hiv hn hl hsc;go_in;go_wp2_with fail
 go_loopw [10] (fun i wr=>∃j:Nat,i=.int .i64 (j:Int)/\j<=n/\Hid (Kq X d u iv l j wr)) (fun i _=>n-(intOf i).toNat)
 case atStart=>exact⟨0,rfl,Nat.zero_le _,[],d,rfl,Sp.refl HS.out,rfl,fun i x v e=>by simp at e⟩
 case round=>
  obtain⟨j,rfl,hj,HD⟩:=hrel;by_cases hjn:j=n
  ·subst hjn;have e0:((j:Int)<(j:Int))=False:=by simp
   go_wp2_with fail;go_end0;exact⟨rfl,HD⟩
  ·obtain⟨qs,d1,H1⟩:∃(qs:List (Nat×Nat)) (d1:MD),Hid (qs.map Prod.fst=iv.take j/\Sp X d u d1 wr/\d1.p=d.p.decl qs/\∀(i:Nat) (x:Nat×Nat) (v:VD),qs[i]?=some x->l[i]?=some v->Bx X d1 wr x.2 (vA v)):=HD.out;obtain⟨iz,hiz⟩:∃iz,Hid (iv[j]?=some iz):=⟨iv[j]'(by have:=HN.out;omega),List.getElem?_eq_some_iff.2 ⟨by have:=HN.out;omega,rfl⟩⟩;obtain⟨v,hv⟩:∃v,Hid (l[j]?=some v):=⟨l[j]'(by have:=HN.out;omega),List.getElem?_eq_some_iff.2 ⟨by have:=HN.out;omega,rfl⟩⟩;have hlt:(j:Int)<(n:Int):=by omega
   have h0:(0:Int)<=(j:Int):=Int.natCast_nonneg _;have hi0:(0:Int)<=(iz:Int):=Int.natCast_nonneg _;have hiv:=HI.out j iz hiz.out;have hi1:(iz:Int)<(X.nv:Int):=by omega
   have hS1:=H1.2.1.s;have hr0:=HR.out d1 wr H1.2.1 j iz hiz.out;have f8:=hS1.f.1.cell 8 rfl;have hF:=hS1.f.1.1;have hV:=hS1.v.1.1;have vz:=hS1.v.2;have HL:Hid (iz<d1.vs.length):=by have:=hS1.nv;show iz<d1.vs.length;omega
   obtain⟨ov,hov⟩:∃ov,Hid (d1.vs[iz]?=some ov):=⟨d1.vs[iz]'HL.out,List.getElem?_eq_some_iff.2 ⟨HL.out,rfl⟩⟩;have v0:wr.cell? ⟨X.V,iz,none⟩=some ov:=(hS1.v.1.2 iz).trans (by simpa using hov.out);have HT:Hid (j<n/\n<=100):=⟨by omega,hn2⟩;clear hS1 hjn hj
   go_upto_region 3 with fail
   go_region_with (go_at_call 89;refine(y75 g c n j v _ HT.1 (HG.step (H1.2.1.drew)).1.1 ((HG.step (H1.2.1.drew)).at hv.out)).mono ?_;rintro e w1 ⟨rfl,hb1⟩;have H3:Hid (Sp X d1 wr d1 w1):=((Sp.refl H1.2.1.s).drew).call hb1;have f8':=H3.s.f.1.cell 8 rfl;have hF':=H3.s.f.1.1;have hV':=H3.s.v.1.1;have v0':w1.cell? ⟨X.V,iz,none⟩=some ov:=(H3.s.v.1.2 iz).trans (by simpa using hov.out);have vz':=H3.s.v.2;clear hb1)
   all_goals
    obtain⟨Q,hQ⟩:∃Q,w1.heap.size=Q:=⟨_,rfl⟩;obtain⟨w2,hw2⟩:∃w2,(w1.setCell ⟨X.V,iz,none⟩ (ptr Q)).alloc (.cells #[.int .i64 v.k,.int .i64 v.n,.float .f64 v.f,.string v.s,.int .i64 v.r] 224)=w2:=⟨_,rfl⟩;have hs2:=Sp.var H3.s HL.out (ptr Q);have hs3:=hs2.alloc (.cells #[.int .i64 v.k,.int .i64 v.n,.float .f64 v.f,.string v.s,.int .i64 v.r] 224);have hbx:=Bx.new hs2.s (vA v) 224;rw[show(w1.setCell ⟨X.V,iz,none⟩ (ptr Q)).heap.size=Q by rw[<-hQ];simp] at hbx;obtain⟨d2,hd2⟩:∃d2,d2={d1 with vs:=d1.vs.set iz (ptr Q)}:=⟨_,rfl⟩;have H2:Hid (Sp X d1 wr d2 w2/\d2.p=d1.p.var iz (ptr Q)):=by
     rw[hd2,<-hw2];exact⟨H3.trans hs3,rfl⟩
    have HB2:Hid (Bx X d2 w2 Q (vA v)):=by rw[hd2,<-hw2];exact hbx
    have Xx:qs.length=j:=by
     have:=congrArg List.length H1.1;have hz:=HN.out;have ht:=HT.out;simp at this;omega
    have hsc2:d2.sc.length<=1000:=by
     have e1:d2.sc=d1.sc:=by rw[hd2]
     have e2:d1.sc.length=d.sc.length+qs.length:=by
      have:=congrArg (fun q:DP=>q.sc.length) H1.2.2.1;simp only[DP.sW] at this;exact this
     have ht:=HT.out;have hc:=HC.out;rw[e1,e2];omega
    have Yw:Hid (qs.length=j):=Xx;rw[hQ,hw2];clear hs2 hs3 hbx hw2 hQ hd2 H3 f8 hF hV v0 vz f8' hF' hV' v0' vz' Xx;have f10:=H2.1.s.f.1.cell 10 rfl;obtain⟨i0,Iq,hy0,hy1,hy2⟩:=info_parts NR;obtain⟨v',w7,happ,hown,hgrow,_,hat⟩:=run_append_own_at (P:=Tryz.prog) (w2.alloc (.cells #[.int .i64 (iz:Int)] 3)) X.N 45 45 3 i0 _ 1 8 Tryz.underlying45 Iq hy0 hy1 hy2 rfl (by decide) (.slice d2.sa d2.sc.length d2.sp) d2.sc.length (iL d2.sc) (H2.1.s.alloc _).sr ⟨w2.heap.size,0,none⟩ 1 1 [.int .i64 (iz:Int)] rfl (cell_one_new _ _ _) (by simp[Value.oneCell']) (by unfold maxLen;omega) (by omega) (H2.1.s.alloc _).n;have hm:=(H2.1.s.alloc (.cells #[.int .i64 (iz:Int)] 3)).qo (by rw[dD] at hgrow;exact hgrow) (.inr (.inr (.inl rfl))) (fun q e=>jJ (H2.1.s.alloc (.cells #[.int .i64 (iz:Int)] 3)).sr e);obtain⟨a3,c3,rfl,hs3⟩:=Sp.scope (z:=(iz:Int)) (H2.1.s.alloc (.cells #[.int .i64 (iz:Int)] 3)) hown hgrow hat;have hs4:=(Sp.below H2.1.s (q01 w2 (.cells #[.int .i64 (iz:Int)] 3))).trans hs3;have HF:Hid (Kq X d u iv l (j+1) (w7.setCell ⟨X.F,10,none⟩ (.slice a3 (d2.sc.length+1) c3))):=by
     refine⟨qs++[(iz,Q)],_,?_,H1.2.1.trans (H2.1.trans hs4),?_,fun i x y hx hy=>?_⟩
     ·rw[List.map_append,H1.1,List.take_add_one,hiz.out];rfl
     ·show DP.scope d2.p (iz:Int)=_;rw[H2.2,H1.2.2.1,DP.uD]
     ·by_cases hij:i<qs.length
      ·rw[List.getElem?_append_left hij] at hx;exact(H1.2.2.2 i x y hx hy).step (H2.1.trans hs4)
      ·have hi2:i=j:=by
        have:=(List.getElem?_eq_some_iff.1 hx).1;have hq:=Yw.out;simp at this;omega
       have hxx:x=(iz,Q):=by
        rw[List.getElem?_append_right (by omega),show i-qs.length=0 by have hq:=Yw.out;omega] at hx;simpa using hx.symm
       have hyy:y=v:=by
        have:=hv.out;rw[hi2,this] at hy;exact(Option.some.inj hy).symm
       subst hxx hyy;exact HB2.step hs4
    have d10:=hm.2.2.1.1.cell 10 rfl;have dz:=hm.2.2.1.2;clear hown hgrow hat hs3 hs4 hm H2 HB2 Iq hy0 hy1 hy2;go_wp2_with (at_builtin;refine q32 (by rfl) _ _ _ _ (by rfl) (.slice d2.sa d2.sc.length d2.sp) (.slice (some ⟨w2.heap.size,0,none⟩) 1 1) _ _ (by rfl) (by rfl) happ ?_);go_roundw
    case rel=>exact⟨j+1,by simp,HT.1,HF⟩
    case measure=>have:=HT.out;simp[intOf];omega
abbrev jA(F:Nat)(cs:Array Value):Value:=.func (.func F) #[] cs
def Au(F:Nat):Prop:=∀args w,(callFunc F args).run Tryz.prog w=.ok (.enter F args) w
def DP.begun(p:DP)(f L:Int):DP:=(p.tick.ln L).gU ⟨1,0,f,L,⟨#[]⟩⟩
def gG(X:RX)(d:MD)(u:World)(R:Value->MD->World->Prop)(e:Ending)(w':World):Prop:=∃way d',e=.returned way/\Sp X d u d' w'/\R way d' w'
def jX(X:RX)(l:Int)(R:Value->MD->World->Prop)(way:Value)(d':MD)(w':World):Prop:=∃d4 w4,R way d4 w4/\Sp X d4 w4 d' w'/\d'.p=d4.p.ln l
abbrev lQ(E:Nat):List PanicEntry:=[{v:=.iface 118 (ptr E),recovered:=false}]
def bG(X:RX)(d:MD)(u:World)(R:Nat->MD->World->Prop)(e:Ending)(w':World):Prop:=∃E d',e=.panicked (lQ E)/\Sp X d u d' w'/\R E d' w'
theorem bG.mono{X:RX}{d:MD}{u:World}{R R':Nat->MD->World->Prop}{e:Ending}{w':World}(h:bG X d u R e w')(hr:∀E d' w',R E d' w'->R' E d' w'):bG X d u R' e w':=by
 obtain⟨E,d',rfl,hs,h1⟩:=h;exact⟨E,d',rfl,hs,hr _ _ _ h1⟩
def mF(X:RX)(d:MD)(u:World)(R:Value->MD->World->Prop)(S:Nat->MD->World->Prop)(e:Ending)(w':World):Prop:=gG X d u R e w'\/bG X d u S e w'
theorem GY(X:RX)(d:MD)(s1 s2 s3 bb F:Nat)(cs:Array Value)(nd:Value)(A2:Array Value)(L:Int)(R:Value->MD->World->Prop)(S:Nat->MD->World->Prop)(u:World)(h:St X d u)(k1:Od X s1 #[ptr bb])(kb:Od X bb #[ptr X.M,nd])(k2:Od X s2 A2)(hA:A2[1]?=some (.int .i64 L))(k3:Od X s3 #[jA F cs])(hE:Au F)(hl:d.recs.length<4000)(ht:d.ti<X.tk)(hact:∀d3 w3,Sp X d u d3 w3->d3.p=d.p.begun X.fn L->Calls Tryz.prog F (#[ptr X.F]++cs) w3 fun e w'=>mF X d3 w3 R S e w'):Calls Tryz.prog 147 #[ptr X.F,ptr s1,ptr s2,ptr s3] u fun e w'=>mF X d u (jX X d.line R) S e w':=by
 have HS:Hid (St X d u):=h;have Ag:Hid (Od X s1 #[ptr bb]):=k1;have HKB:Hid (Od X bb #[ptr X.M,nd]):=kb;have iY:Hid (Od X s2 A2):=k2;have HA:Hid (A2[1]?=some (.int .i64 L)):=hA;have JH:Hid (Od X s3 #[jA F cs]):=k3;have SX:Hid (∀d3 w3,Sp X d u d3 w3->d3.p=d.p.begun X.fn L->Calls Tryz.prog F (#[ptr X.F]++cs) w3 fun e w'=>mF X d3 w3 R S e w'):=hact;have HL:Hid (d.recs.length<4000):=hl;have HTi:Hid (d.ti<X.tk):=ht;have b1:=(k1.at h).cell 0 rfl;have b2:=(kb.at h).cell 0 rfl;have l1:=(k1.at h).1;have l2:=(kb.at h).1;have hE':=hE;unfold Au at hE';have HEn:Hid (∀args w,(callFunc F args).run Tryz.prog w=.ok (.enter F args) w):=hE';clear h k1 kb k2 hA k3 hl ht hact hE hE';go_in;go_wp2_with fail;refine(Pz X d _ HS HTi).mono ?_;rintro e w1 ⟨rfl,d1,hs1,e1⟩;have H1:Hid (Sp X d u d1 w1/\d1.p=d.p.tick):=⟨hs1,e1⟩;have DL:d1.line=d.line:=congrArg DP.line e1;clear hs1 e1 b1 b2 l1 l2;have f12:w1.cell? ⟨X.F,12,none⟩=some (.int .i64 d.line):=by rw[<-DL];exact H1.1.s.f.1.cell 12 rfl
 have fz:=H1.1.s.f.2;have n1:=(iY.at H1.1.s).cell 1 HA.out;have hne:X.F≠s2:=fun e=>by have h1:=iY.1.1;have h2:=HS.x.f;omega
 have lF:=H1.1.s.f.1.1;have lS:=(iY.at H1.1.s).1
 go_upto_region 4 with fail
 obtain⟨d2,w2,hw2,hs2,e2⟩:∃d2 w2,w1.setCell ⟨X.F,12,none⟩ (.int .i64 L)=w2/\Sp X d1 w1 d2 w2/\d2.p=d1.p.ln L:=⟨_,_,rfl,Sp.line H1.1.s L,rfl⟩;have H2:Hid (Sp X d u d2 w2/\d2.p=d.p.tick.ln L):=⟨H1.1.trans hs2,by rw[e2,H1.2]⟩;rw[hw2];clear hw2 hs2 e2 H1 f12 fz n1 DL lF lS;have b1:=(Ag.at H2.1.s).cell 0 rfl;have bb':=(HKB.at H2.1.s).cell 0 rfl;have f1:=H2.1.s.f.1.cell 1 rfl;have n1:=(iY.at H2.1.s).cell 1 HA.out;have HS2:Hid (St X d2 w2.drew):=H2.1.s.drew;have HL2:Hid (d2.recs.length<5000):=by
  have e:d2.recs=d.recs:=congrArg DP.recs H2.2;have hz:=HL.out;show d2.recs.length<5000;rw[e];omega
 go_region_with (go_at_call 149;refine(Du X d2 1 X.fn L ⟨#[]⟩ _ HS2 HL2).mono ?_;rintro e w3 ⟨rfl,ht3⟩)
 all_goals
  obtain⟨d3,hs3,e3⟩:=ht3;have H3:Hid (Sp X d u d3 w3/\d3.p=d.p.begun X.fn L):=⟨H2.1.drew.trans hs3,by rw[e3,H2.2];rfl⟩;clear hs3 e3 H2 HS2 b1 bb' f1 n1 HL2;have s3':=(JH.at H3.1.s).cell 0 rfl;have l3:=(JH.at H3.1.s).1;have hEn:=HEn.out;go_wp2_with fail;clear hEn;refine(SX d3 w3 H3.1 H3.2).mono ?_;rintro e w4 (⟨way,d4,rfl,hs4,hr4⟩|⟨E4,d4,rfl,hs4,hr4⟩)
  ·have H4:Hid (Sp X d u d4 w4/\R way d4 w4):=⟨H3.1.trans hs4,hr4⟩;clear hs4 hr4 H3 s3' l3;have f12:=H4.1.s.f.1.cell 12 rfl;have fz:=H4.1.s.f.2;have lF:=H4.1.s.f.1.1;have HF:Hid (mF X d u (jX X d.line R) S (.returned way) (w4.setCell ⟨X.F,12,none⟩ (.int .i64 d.line))):=.inl ⟨way,_,rfl,H4.1.trans (Sp.line H4.1.s d.line),d4,w4,H4.2,Sp.line H4.1.s d.line,rfl⟩;go_wp2_with fail;go_ret;exact HF
  ·have HF:Hid (mF X d u (jX X d.line R) S (.panicked (lQ E4)) w4):=.inr ⟨E4,d4,rfl,H3.1.trans hs4,hr4⟩;clear hs4 hr4 H3 s3' l3;go_wp2_with fail;simp[bodyPost];exact HF
def Oo(X:RX)(B o:Nat)(v:Value):Prop:=(B<X.W.heap.size/\X.W.cell? ⟨B,o,none⟩=some v)/\B≠X.M
theorem Oo.at{X:RX}{d:MD}{u:World}{B o:Nat}{v:Value}(h:Oo X B o v)(s:St X d u):u.cell? ⟨B,o,none⟩=some v:=(World.cell?_of_block (a:=⟨B,o,none⟩) (s.k.block B h.1.1 (fun e=>by
 rcases e with e|e
 ·exact h.2 e
 ·have:=h.1.1;omega))).trans h.1.2
abbrev Y9(a b c:Nat):Value:=.func (.func 283) #[] #[ptr a,ptr b,ptr c]
theorem kG.bl{X:RX}{d:MD}{w:World}{N g c:Nat}{l:List VD}(h:kG N w g c l)(hn:¬stB X d g):Bl X d w g l:=
 ⟨⟨(q16 h (k:=g) rfl).2,fun j v hv=>by
  have:=h.cells (g:=g) rfl j v hv
  cases j<;>simpa[Addr.add] using this⟩,hn⟩
theorem kG.cap{w:World}{N g c:Nat}{l:List VD}(h:kG N w g c l):l.length<=c:=by
 rcases h.2 with⟨e,h0⟩|⟨g',cap,cur,e,_,hg,h5,_⟩
 ·have:(Value.slice (some (⟨g,0,none⟩:Addr)) l.length c)=.slice none 0 0:=e;simp at this
 ·have:c=cap:=by simpa using(show g=g'/\c=cap by simpa using e).2
  omega
theorem St.mG{X:RX}{d:MD}{u:World}(h:St X d u):d.sc.length<=d.sp/\((d.sa=none/\d.sp=0/\d.sc.length=0)\/∃g,d.sa=some ⟨g,0,none⟩):=by
 rcases h.sr.2 with⟨e,h0⟩|⟨g,cap,cur,e,_,hg,h5,_⟩
 ·obtain⟨e1,e2,e3⟩:d.sa=none/\d.sc.length=0/\d.sp=0:=by simpa using e
  exact⟨by omega,.inl ⟨e1,e3,e2⟩⟩
 ·obtain⟨e1,e3⟩:d.sa=some ⟨g,0,none⟩/\d.sp=cap:=by simpa using e
  exact⟨by omega,.inr ⟨g,e1⟩⟩
theorem AY(a:Option Addr)(c:Prop)[Decidable c](h:a=none\/∃g,a=some (⟨g,0,none⟩:Addr)):(if c then a else a.map (fun x=>x.add 0))=a:=by
 rcases h with rfl|⟨g,rfl⟩<;>simp[Addr.add]
def Oa(X:RX)(m:Nat)(R:Value->MD->World->Prop)(way:Value)(d':MD)(w':World):Prop:=way=.nilIface/\∃d1 w1,R .nilIface d1 w1/\Sp X d1 w1 d' w'/\d'.p=d1.p.qB m
def Js(m:Nat)(R:Value->MD->World->Prop):Prop:=∀way d' w',R way d' w'->way=.nilIface/\m<=d'.sc.length
theorem PG(X:RX)(d:MD)(k1 ka kc s1 s2 s3:Nat)(R:Value->MD->World->Prop)(S:Nat->MD->World->Prop)(u:World)(h:St X d u)(hk1:Od X k1 #[.slice (some ⟨ka,0,none⟩) 1 kc])(hka:Oc X ka (zh s1 s2 s3))(hR:Js d.sc.length R)(hst:Calls Tryz.prog 147 #[ptr X.F,ptr s1,ptr s2,ptr s3] u fun e w'=>mF X d u R S e w'):Calls Tryz.prog 170 #[ptr X.F,ptr k1] u fun e w'=>mF X d u (Oa X d.sc.length R) S e w':=by
 have HR:Hid (Js d.sc.length R):=hR;have Sj:Hid (Calls Tryz.prog 147 #[ptr X.F,ptr s1,ptr s2,ptr s3] u fun e w'=>mF X d u R S e w'):=hst;have q1:=(hk1.at h).cell 0 rfl;have l1:=(hk1.at h).1;have f10:=h.f.1.cell 10 rfl;have LX:=hka.at h;clear h hk1 hka hst hR;go_in;go_wp2_with fail;refine wp_loop_rounds 2 ?_;rw[rounds_succ];go_wp2_with fail;refine Sj.mono ?_;rintro e w1 (⟨way,d1,rfl,hs1,hr1⟩|⟨E1,d1,rfl,hs1,hr1⟩)
 ·obtain⟨rfl,hm⟩:=HR.out way d1 w1 hr1;have hcap:=hs1.s.mG;have hif:=AY d1.sa (d1.sp=0) (hcap.2.elim (fun h=>.inl h.1) .inr);have hcp:d.sc.length<=d1.sp:=by omega
  obtain⟨z,hz⟩:∃z,d1.sc.length=z:=⟨_,rfl⟩;have g10:w1.cell? ⟨X.F,10,none⟩=some (.slice d1.sa z d1.sp):=by rw[<-hz];exact hs1.s.f.1.cell 10 rfl
  have gz:=hs1.s.f.2;have lF:=hs1.s.f.1.1;have HF:Hid (mF X d u (Oa X d.sc.length R) S (.returned .nilIface) (w1.setCell ⟨X.F,10,none⟩ (.slice d1.sa d.sc.length d1.sp))):=by
   have h2:=Sp.qB hs1.s (m:=d.sc.length) hm;exact .inl ⟨_,_,rfl,hs1.trans h2,rfl,d1,w1,hr1,h2,rfl⟩
  clear hs1 hr1 hcap q1 l1 f10 LX hz hm;go_wp2_with fail;rw[rounds_succ];go_wp2_with fail;go_ret;exact HF
 ·have HF:Hid (mF X d u (Oa X d.sc.length R) S (.panicked (lQ E1)) w1):=.inr ⟨E1,d1,rfl,hs1,hr1⟩;clear hs1 hr1 q1 l1 f10 LX;go_wp2_with fail;simp[bodyPost];exact HF
end
end Go.Proofs.YtihnikeikhjndaaGreatDoor
