import Derived.Test.YthnkncpegihbhaaGreatDoorWzG
set_option maxRecDepth 100000
set_option maxHeartbeats 16000000
namespace Go.Proofs.YthnkncpegihbhaaGreatDoor
section
open Go.RowKit
attribute [local go_sem] iD
attribute [local go_sem ↓] Go.wp_at_zero Go.wp_at_succ
def Rl(X:RX)(d:MD)(u:World)(iv:List Nat)(l:List VD)(j:Nat)(w':World):Prop:=∃(qs:List (Nat×Nat)) (d':MD),qs.map Prod.fst=iv.take j/\Sp X d u d' w'/\d'.p=d.p.decl qs/\∀(i:Nat) (x:Nat×Nat) (v:VD),qs[i]?=some x->l[i]?=some v->jk X d' w' x.2 (vA v)
theorem z11(X:RX)(d:MD)(rb ro rc g c n:Nat)(iv:List Nat)(l:List VD)(u:World)(h:St X d u)(hr:∀d' w',Sp X d u d' w'->∀(j i:Nat),iv[j]?=some i->w'.cell? ⟨rb,ro+j,none⟩=some (.int .i64 (i:Int)))(hiv:∀(j i:Nat),iv[j]?=some i->i<X.nv)(hg:Bl X d u g l)(hn:iv.length=n)(hl:l.length=n)(hn2:n<=100)(hsc:d.sc.length<=900):Calls Tryz.prog 87 #[ptr X.F,.slice (some ⟨rb,ro,none⟩) n rc,.slice (some ⟨g,0,none⟩) n c] u fun e w'=>e=.returned (.tuple #[])/\Rl X d u iv l n w':=by
 have HS:Hid (St X d u):=h;have HG:Hid (Bl X d u g l):=hg;have HR:Hid (∀d' w',Sp X d u d' w'->∀(j i:Nat),iv[j]?=some i->w'.cell? ⟨rb,ro+j,none⟩=some (.int .i64 (i:Int))):=hr;have HI:Hid (∀(j i:Nat),iv[j]?=some i->i<X.nv):=hiv;have HN:Hid (iv.length=n/\l.length=n):=⟨hn,hl⟩;have HC:Hid (d.sc.length<=900):=hsc;clear h hg hr hiv hn hl hsc;go_in;go_wp2_with fail
 go_loopw [10] (fun i wr=>∃j:Nat,i=.int .i64 (j:Int)/\j<=n/\Hid (Rl X d u iv l j wr)) (fun i _=>n-(intOf i).toNat)
 case atStart=>exact⟨0,rfl,aF _,[],d,rfl,Sp.refl HS.out,rfl,fun i x v e=>by simp at e⟩
 case round=>
  obtain⟨j,rfl,hj,HD⟩:=hrel;by_cases hjn:j=n
  ·subst hjn;have e0:((j:Int)<(j:Int))=False:=by simp
   go_wp2_with fail;go_end0;exact⟨rfl,HD⟩
  ·obtain⟨qs,d1,H1⟩:∃(qs:List (Nat×Nat)) (d1:MD),Hid (qs.map Prod.fst=iv.take j/\Sp X d u d1 wr/\d1.p=d.p.decl qs/\∀(i:Nat) (x:Nat×Nat) (v:VD),qs[i]?=some x->l[i]?=some v->jk X d1 wr x.2 (vA v)):=HD.out;obtain⟨iz,hiz⟩:∃iz,Hid (iv[j]?=some iz):=⟨iv[j]'(by have:=HN.out;omega),aP.2 ⟨by have:=HN.out;omega,rfl⟩⟩;obtain⟨v,hv⟩:∃v,Hid (l[j]?=some v):=⟨l[j]'(by have:=HN.out;omega),aP.2 ⟨by have:=HN.out;omega,rfl⟩⟩;have gK:(j:Int)<(n:Int):=by omega
   have h0:(0:Int)<=(j:Int):=aS _;have gU:(0:Int)<=(iz:Int):=aS _;have hiv:=HI.out j iz hiz.out;have hi1:(iz:Int)<(X.nv:Int):=by omega
   have hS1:=H1.2.1.s;have hr0:=HR.out d1 wr H1.2.1 j iz hiz.out;have f8:=hS1.f.1.cell 8 rfl;have hF:=hS1.f.1.1;have hV:=hS1.v.1.1;have vz:=hS1.v.2;have HL:Hid (iz<d1.vs.length):=by have:=hS1.nv;show iz<d1.vs.length;omega
   obtain⟨ov,hov⟩:∃ov,Hid (d1.vs[iz]?=some ov):=⟨d1.vs[iz]'HL.out,aP.2 ⟨HL.out,rfl⟩⟩;have v0:wr.cell? ⟨X.V,iz,none⟩=some ov:=(hS1.v.1.2 iz).trans (by simpa using hov.out);have HT:Hid (j<n/\n<=100):=⟨by omega,hn2⟩;clear hS1 hjn hj
   go_upto_region 3 with fail
   go_region_with (go_at_call 88;refine(L6 g c n j v _ HT.1 (HG.step (H1.2.1.drew)).1.1 ((HG.step (H1.2.1.drew)).at hv.out)).mono ?_;rintro e w1 ⟨rfl,eu⟩;have H3:Hid (Sp X d1 wr d1 w1):=((Sp.refl H1.2.1.s).drew).call eu;have Y9:=H3.s.f.1.cell 8 rfl;have hF':=H3.s.f.1.1;have hV':=H3.s.v.1.1;have v0':w1.cell? ⟨X.V,iz,none⟩=some ov:=(H3.s.v.1.2 iz).trans (by simpa using hov.out);have Vm:=H3.s.v.2;clear eu)
   all_goals
    obtain⟨Q,hQ⟩:∃Q,w1.heap.size=Q:=⟨_,rfl⟩;obtain⟨w2,fU⟩:∃w2,(w1.setCell ⟨X.V,iz,none⟩ (ptr Q)).alloc (.cells #[.int .i64 v.k,.int .i64 v.n,.float .f64 v.f,.string v.s,.int .i64 v.r] 225)=w2:=⟨_,rfl⟩;have fJ:=Sp.var H3.s HL.out (ptr Q);have fM:=fJ.alloc (.cells #[.int .i64 v.k,.int .i64 v.n,.float .f64 v.f,.string v.s,.int .i64 v.r] 225);have hbx:=jk.new fJ.s (vA v) 225;rw[show(w1.setCell ⟨X.V,iz,none⟩ (ptr Q)).heap.size=Q by rw[<-hQ];simp] at hbx;obtain⟨d2,hd2⟩:∃d2,d2={d1 with vs:=d1.vs.set iz (ptr Q)}:=⟨_,rfl⟩;have H2:Hid (Sp X d1 wr d2 w2/\d2.p=d1.p.var iz (ptr Q)):=by
     rw[hd2,<-fU];exact⟨H3.trans fM,rfl⟩
    have fD:Hid (jk X d2 w2 Q (vA v)):=by rw[hd2,<-fU];exact hbx
    have Lu:qs.length=j:=by
     have:=aJ List.length H1.1;have hz:=HN.out;have ht:=HT.out;simp at this;omega
    have hsc2:d2.sc.length<=1000:=by
     have e1:d2.sc=d1.sc:=by rw[hd2]
     have e2:d1.sc.length=d.sc.length+qs.length:=by
      have:=aJ (fun q:DP=>q.sc.length) H1.2.2.1;simp only[DP.zh] at this;exact this
     have ht:=HT.out;have hc:=HC.out;rw[e1,e2];omega
    have Qa:Hid (qs.length=j):=Lu;rw[hQ,fU];clear fJ fM hbx fU hQ hd2 H3 f8 hF hV v0 vz Y9 hF' hV' v0' Vm Lu;have f10:=H2.1.s.f.1.cell 10 rfl;obtain⟨i0,BR,gQ,hy1,hy2⟩:=bT QI;obtain⟨v',w7,gq,gB,gY,_,hat⟩:=run_append_own_at (P:=Tryz.prog) (w2.alloc (.cells #[.int .i64 (iz:Int)] 3)) X.N 45 45 3 i0 _ 1 8 Tryz.underlying45 BR gQ hy1 hy2 rfl (by decide) (.slice d2.sa d2.sc.length d2.sp) d2.sc.length (iL d2.sc) (H2.1.s.alloc _).sr ⟨w2.heap.size,0,none⟩ 1 1 [.int .i64 (iz:Int)] rfl (cell_one_new _ _ _) (by simp[Value.oneCell']) (by unfold maxLen;omega) (by omega) (H2.1.s.alloc _).n;have hm:=(H2.1.s.alloc (.cells #[.int .i64 (iz:Int)] 3)).wQ (by rw[jg] at gY;exact gY) (.inr (.inr (.inl rfl))) (fun q e=>lJ (H2.1.s.alloc (.cells #[.int .i64 (iz:Int)] 3)).sr e);obtain⟨a3,c3,rfl,fM⟩:=Sp.scope (z:=(iz:Int)) (H2.1.s.alloc (.cells #[.int .i64 (iz:Int)] 3)) gB gY hat;have fO:=(Sp.below H2.1.s (q01 w2 (.cells #[.int .i64 (iz:Int)] 3))).trans fM;have HF:Hid (Rl X d u iv l (j+1) (w7.setCell ⟨X.F,10,none⟩ (.slice a3 (d2.sc.length+1) c3))):=by
     refine⟨qs++[(iz,Q)],_,?_,H1.2.1.trans (H2.1.trans fO),?_,fun i x y hx hy=>?_⟩
     ·rw[bH,H1.1,List.take_add_one,hiz.out];rfl
     ·show DP.scope d2.p (iz:Int)=_;rw[H2.2,H1.2.2.1,DP.uz]
     ·by_cases hij:i<qs.length
      ·rw[bZ hij] at hx;exact(H1.2.2.2 i x y hx hy).step (H2.1.trans fO)
      ·have hi2:i=j:=by
        have:=(aP.1 hx).1;have hq:=Qa.out;simp at this;omega
       have hxx:x=(iz,Q):=by
        rw[dA (by omega),show i-qs.length=0 by have hq:=Qa.out;omega] at hx;simpa using hx.symm
       have Xk:y=v:=by
        have:=hv.out;rw[hi2,this] at hy;exact(aQ hy).symm
       subst hxx Xk;exact fD.step fO
    have d10:=hm.2.2.1.1.cell 10 rfl;have dz:=hm.2.2.1.2;clear gB gY hat fM fO hm H2 fD BR gQ hy1 hy2;go_wp2_with (at_builtin;refine um (by rfl) _ _ _ _ (by rfl) (.slice d2.sa d2.sc.length d2.sp) (.slice (some ⟨w2.heap.size,0,none⟩) 1 1) _ _ (by rfl) (by rfl) gq ?_);go_roundw
    case rel=>exact⟨j+1,by simp,HT.1,HF⟩
    case measure=>have:=HT.out;simp[intOf];omega
def JX(X:RX)(v:VD)(i:Nat)(R:DP->Prop)(way:Value)(d':MD)(w':World):Prop:=way=.nilIface/\∃Q q,R q/\d'.p=(q.var i (ptr Q)).scope (i:Int)/\jk X d' w' Q (vA v)
theorem y06(X:RX)(d:MD)(u:World)(x1 x2 rb ro rc i F:Nat)(cs A2:Array Value)(v:VD)(R:DP->Prop)(h:St X d u)(n1:Od X x1 A2)(hA:A2[6]?=some (.slice (some ⟨rb,ro,none⟩) 1 rc))(hr:Oo X rb ro (.int .i64 (i:Int)))(hi:i<X.nv)(n2:Od X x2 #[iE F cs])(hl:qI X F cs d u d.p [v] R)(hsc:∀q,R q->q.sc.length<=900):Calls Tryz.prog 191 #[ptr X.F,ptr x1,ptr x2] u fun e w'=>kK X d u (JX X v i R) e w':=by
 have HS:Hid (St X d u):=h;have HL:Hid (∀w,gZ u w->Calls Tryz.prog F (#[ptr X.F]++cs) w fun e w'=>qx X d w [v] R e w'):=fun w hb=>hl.2 d w (Sp.below h hb) rfl;have HD:Hid (∀(d1:MD) (w1:World) (g c:Nat),St X d1 w1->R d1.p->Bl X d1 w1 g [v]->Calls Tryz.prog 87 #[ptr X.F,.slice (some ⟨rb,ro,none⟩) 1 rc,.slice (some ⟨g,0,none⟩) 1 c] w1 fun e w'=>e=.returned (.tuple #[])/\Rl X d1 w1 [i] [v] 1 w'):=fun d1 w1 g c h1 e1 hb=>z11 X d1 rb ro rc g c 1 [i] [v] w1 h1 (fun d' w' k j z hz=>by
  cases j with
  |zero=>
   have:i=z:=by simpa using hz
   subst this;exact hr.at k.s
  |succ j=>simp at hz) (fun j z hz=>by
  cases j with
  |zero=>
   have:i=z:=by simpa using hz
   subst this;exact hi
  |succ j=>simp at hz) hb rfl rfl (by omega) (hsc _ e1)
 have oV:Hid (Od X x1 A2):=n1;have HA:Hid (A2[6]?=some (.slice (some ⟨rb,ro,none⟩) 1 rc)):=hA;have sJ:∀args w,(callFunc F args).run Tryz.prog w=.ok (.enter F args) w:=hl.1;have a6:=(n1.at h).cell 6 hA;have a2:=(n2.at h).cell 0 rfl;have l1:=(n1.at h).1;have l2:=(n2.at h).1;go_in;go_wp2_with fail
 go_region_with (first
  |(go_at_call 87;refine(HD d1 w1 g c H1.1.s H1.2.1 H1.2.2).mono ?_;rintro e w2 ⟨rfl,qs,d2,hq,fJ,e2,eG⟩)
  |(refine(HL.out _ (ay _ _).drew).mono ?_;rintro e w1 ⟨a1,c,d1,rfl,hla,fH,fG⟩;rcases hla with⟨h0,_⟩|⟨_,g,rfl,_,hg⟩;(exact absurd h0 (by simp));have H1:Hid (Sp X d u d1 w1/\R d1.p/\Bl X d1 w1 g [v]):=⟨((Sp.refl HS.out).drew).trans fH,fG,hg⟩;have a6':=(oV.at H1.1.s).cell 6 HA.out;have Tc:=(oV.at H1.1.s).1))
 all_goals
  obtain⟨Q,rfl⟩:=yk3 qs i hq;have HF:Hid (kK X d u (JX X v i R) (.returned .nilIface) w2):=⟨_,d2,rfl,H1.1.trans fJ,rfl,Q,d1.p,H1.2.1,by rw[e2];rfl,eG 0 (i,Q) v rfl rfl⟩;go_wp2_with fail;go_ret;exact HF
def Ol(N:Nat)(i:Value)(w:World):Nat:=
 match i with
 |.pointer (some a)=>match w.cell? ⟨a.block,0,none⟩,w.cell? ⟨a.block,11,none⟩ with
  |some (.bool true),some (.int _ t)=>N+1-t.toNat
  |_,_=>0
 |_=>0
theorem OwnB.same{w w':World}{B:Nat}{A:Array Value}{o:Obj}(h:OwnB w B A)(e:w.heap[B]?=some o)(e':w'.heap[B]?=some o):OwnB w' B A:=
 ⟨⟨(aA.1 e').1,fun i=>(ak (a:=⟨B,i,none⟩) (e'.trans e.symm)).trans (h.1.2 i)⟩,fun i=>(bD (a:=⟨B,i,none⟩) (e'.trans e.symm)).trans (h.2 i)⟩
theorem Gx.nZ{w w':World}{B:Nat}(h:Gx (fun k=>k=B) w w')(o:Nat)(v:Value):Gx (fun k=>k=B) w (w'.setCell ⟨B,o,none⟩ v):=h.trans (Gx.set _ _ _ _) (fun _ _ e=>e)
theorem Oi{w:World}{B:Nat}{A:Array Value}(h:OwnB w B A)(hA:A.size=12)(v0 v1 v2 v3 v4 v5 v6 v7 v8 v9 v10 v11:Value):OwnB ((((((((((((w.setCell ⟨B,0,none⟩ v0).setCell ⟨B,1,none⟩ v1).setCell ⟨B,2,none⟩ v2).setCell ⟨B,3,none⟩ v3).setCell ⟨B,4,none⟩ v4).setCell ⟨B,5,none⟩ v5).setCell ⟨B,6,none⟩ v6).setCell ⟨B,7,none⟩ v7).setCell ⟨B,8,none⟩ v8).setCell ⟨B,9,none⟩ v9).setCell ⟨B,10,none⟩ v10).setCell ⟨B,11,none⟩ v11) B #[v0,v1,v2,v3,v4,v5,v6,v7,v8,v9,v10,v11]/\Gx (fun k=>k=B) w ((((((((((((w.setCell ⟨B,0,none⟩ v0).setCell ⟨B,1,none⟩ v1).setCell ⟨B,2,none⟩ v2).setCell ⟨B,3,none⟩ v3).setCell ⟨B,4,none⟩ v4).setCell ⟨B,5,none⟩ v5).setCell ⟨B,6,none⟩ v6).setCell ⟨B,7,none⟩ v7).setCell ⟨B,8,none⟩ v8).setCell ⟨B,9,none⟩ v9).setCell ⟨B,10,none⟩ v10).setCell ⟨B,11,none⟩ v11):=
 ⟨⟨⟨by simp[h.1.1],Bv h.1.2 hA v0 v1 v2 v3 v4 v5 v6 v7 v8 v9 v10 v11⟩,fun o=>by simp[h.2 o]⟩,(Gx.nZ (Gx.nZ (Gx.nZ (Gx.nZ (Gx.nZ (Gx.nZ (Gx.nZ (Gx.nZ (Gx.nZ (Gx.nZ (Gx.nZ (Gx.nZ (Gx.refl _ _) 0 v0) 1 v1) 2 v2) 3 v3) 4 v4) 5 v5) 6 v6) 7 v7) 8 v8) 9 v9) 10 v10) 11 v11)⟩
theorem PE{w:World}{B:Nat}{t:TypeId}(h:jC w B t)(v0 v1 v2 v3 v4 v5 v6 v7 v8 v9 v10 v11:Value):jC ((((((((((((w.setCell ⟨B,0,none⟩ v0).setCell ⟨B,1,none⟩ v1).setCell ⟨B,2,none⟩ v2).setCell ⟨B,3,none⟩ v3).setCell ⟨B,4,none⟩ v4).setCell ⟨B,5,none⟩ v5).setCell ⟨B,6,none⟩ v6).setCell ⟨B,7,none⟩ v7).setCell ⟨B,8,none⟩ v8).setCell ⟨B,9,none⟩ v9).setCell ⟨B,10,none⟩ v10).setCell ⟨B,11,none⟩ v11) B t:=(jC.set (jC.set (jC.set (jC.set (jC.set (jC.set (jC.set (jC.set (jC.set (jC.set (jC.set (jC.set h _ _) _ _) _ _) _ _) _ _) _ _) _ _) _ _) _ _) _ _) _ _) _ _)
structure Yp(X:RX)(d0:MD)(w0:World)(S:TS)(J:Nat->DP->Prop)(q:Nat->PD)(N l D:Nat)(r:Loop)(k:Nat)(d:MD)(B:Nat)(W:World):Prop where
 s:Sp X d0 w0 d W
 o:jl X d S
 j:J k d.p
 bk:BK l D r W
 c:OwnB W B (fK q N k)
 t:jC W B 386
theorem j80{q:Nat->PD}{N k B:Nat}{W:World}(h:OwnB W B (fK q N k))(ht:∀i,i<N->(q i).turn=(i:Int)+1)(hk:k<=N):Ol N (.pointer (some ⟨B,0,none⟩)) W=N-k:=by
 have c0:W.cell? ⟨B,0,none⟩=some (.bool (decide (k<N))):=h.1.cell 0 rfl;have c1:W.cell? ⟨B,11,none⟩=some (.int .i64 (if k<N then q k else pz).turn):=h.1.cell 11 rfl;simp only[Ol,c0,c1];by_cases c:k<N
 ·rw[bJ c,aO c,ht k c];show N+1-((k:Int)+1).toNat=N-k;omega
 ·rw[bP c];show 0=N-k;omega
theorem yk0(X:RX)(d0:MD)(w0:World)(hst:St X d0 w0)(S:TS)(J:Nat->DP->Prop)(t N:Nat)(hnt:t<S.nt)(hN:(S.D t).n=N)(ht:∀i,i<N->((S.D t).q i).turn=(i:Int)+1)(P5:N<=1000)(hti:∀k p,k<N->J k p->p.ti<X.tk)(l D:Nat)(r:Loop)(W:World)(hbk:BK l D r W)(h0:EI X d0 w0 S J 0 W)(hY:∀k x W1,k<N->BK l D r W1->EP X d0 w0 S J (S.D t).q k x W1->YieldAt Fence.wide 1 Tryz.prog l #[.slice (some ⟨x.2,0,none⟩) 2 2] W1 fun e W'=>e=.returned (.bool true)/\BK l D r W'/\EI X d0 w0 S J (k+1) W'/\jW (stB X x.1) W1 W'):CallsIn Fence.wide 2 Tryz.prog 259 #[ptr X.M,ptr (S.K t),.func (.yield l) #[] #[]] W fun e W'=>(∃v,e=.returned v)/\BK l D r W'/\EI X d0 w0 S J N W':=by
 have HY:Hid (∀k x W1,k<N->BK l D r W1->EP X d0 w0 S J (S.D t).q k x W1->YieldAt Fence.wide 1 Tryz.prog l #[.slice (some ⟨x.2,0,none⟩) 2 2] W1 fun e W'=>e=.returned (.bool true)/\BK l D r W'/\EI X d0 w0 S J (k+1) W'/\jW (stB X x.1) W1 W'):=hY;have HT:Hid (∀i,i<N->((S.D t).q i).turn=(i:Int)+1):=ht;have YC:Hid (∀k p,k<N->J k p->p.ti<X.tk):=hti;have Qv:Hid (∀(d:MD) (w:World) (k:Nat) (T:Int),T=(k:Int)->k<=N->St X d w->jl X d S->Calls Tryz.prog 307 #[.pointer (some ⟨S.K t,0,none⟩),.int .i64 T] w fun e W'=>∃f p,e=.returned (LM f p)/\fC f p=fK (S.D t).q N k/\gZ w W'):=fun d w k T hT hk h o=>by
  subst hT;exact(qs2 (S.K t) (S.a t) (S.D t).n (S.c t) (S.B t) (S.D t).t (S.D t).q k w (by omega) ((o.is h).box hnt)).mono fun _ _ ⟨⟨f,p,e1,e2⟩,e3⟩=>⟨f,p,e1,yn4 (by rw[<-hN];exact e2) ht hk,e3⟩
 obtain⟨d,h1,h2,h3⟩:=h0;have Md:Hid (St X d0 w0):=hst;have H0:Hid (Sp X d0 w0 d W/\jl X d S/\J 0 d.p/\BK l D r W):=⟨h1,h2,h3,hbk⟩;clear hst hY ht hti h1 h2 h3 hbk;generalize S.K t=K at Qv;generalize (S.D t).q=q at HY HT Qv;refine dX Tryz.func259 rfl trivial ?_ rfl;simp only[Tryz.ntmps259,List.size_toArray,List.length_cons,List.length_nil,Nat.reduceAdd,Nat.reduceSub,Array.replicate_succ,Array.replicate_zero,List.push_toArray,List.append_toArray,List.nil_append,List.cons_append];gi_wp2;refine⟨trivial,(dP.2 (Qv d _ 0 0 rfl (aF _) H0.1.s H0.2.1)).mono ?_⟩;rintro e w1 ⟨f,p,rfl,hfp,eu⟩;have qJ:Hid (Yp X d0 w0 S J q N l D r 0 d w1.heap.size (w1.alloc (.cells (fC f p) 386))):=by
  have hs:=Sp.below H0.1.s (iq eu (q01 w1 (.cells (fC f p) 386)));exact⟨H0.1.trans hs,H0.2.1,H0.2.2.1,hs.bk H0.1.s H0.2.1 H0.2.2.2,by rw[<-hfp];exact OwnB.new _ _ _,_,_,World.alloc_heap_new _ _⟩
 clear hfp eu H0;gi_wp2
 gi_loopw [6] (fun i wr=>∃(k:Nat) (d:MD) (B:Nat),k<=N/\i=.pointer (some ⟨B,0,none⟩)/\Hid (Yp X d0 w0 S J q N l D r k d B wr)) (fun i w=>Ol N i w)
 case atStart=>exact⟨0,d,_,aF _,rfl,qJ⟩
 case round=>
  obtain⟨k,d1,B,hk,rfl,HP⟩:=hrel;clear qJ;by_cases fE:k<N
  ·have hd:decide (k<N)=true:=bJ fE;have c0:wr.cell? ⟨B,0,none⟩=some (.bool true):=by
    have:=HP.c.1.cell 0 rfl;rw[this];simp[fE]
   have lB:=HP.c.1.1;gi_wp2;refine⟨trivial,(dP.2 (Wi X d1 wr HP.s.s (YC k d1.p fE HP.j))).mono ?_⟩;rintro e w2 ⟨rfl,d2,fJ,e2⟩;have hnB:¬stB X d1 B:=HP.s.s.Oj HP.o HP.t c0;have hO:OwnB w2 B (fC true (q k)):=by
    have:=fJ.g.ownB HP.c hnB;rw[show fK q N k=fC true (q k) by simp[fK,fE]] at this;exact this
   have hT2:jC w2 B 386:=by
    obtain⟨A,fr,hh⟩:=HP.t;exact⟨A,fr,(fJ.g.block B lB hnB).trans hh⟩
   have ho2:jl X d2 S:=qw.to (by rw[e2];exact HP.o.tp);obtain⟨w3,fV⟩:∃w3,w2.alloc (.cells #[.int .i64 (q k).key.k,.int .i64 (q k).key.n,.float .f64 (q k).key.f,.string (q k).key.s,.int .i64 (q k).key.r,.int .i64 (q k).val.k,.int .i64 (q k).val.n,.float .f64 (q k).val.f,.string (q k).val.s,.int .i64 (q k).val.r] 61)=w3:=⟨_,rfl⟩;have H3:Hid (Sp X d0 w0 d2 w3/\BK l D r w3/\OwnB w3 B (fC true (q k))/\jC w3 B 386/\Bl X d2 w3 w2.heap.size [(q k).key,(q k).val]):=by
    have hb:=q01 w2 (.cells #[.int .i64 (q k).key.k,.int .i64 (q k).key.n,.float .f64 (q k).key.f,.string (q k).key.s,.int .i64 (q k).key.r,.int .i64 (q k).val.k,.int .i64 (q k).val.n,.float .f64 (q k).val.f,.string (q k).val.s,.int .i64 (q k).val.r] 61);rw[fV] at hb;have fM:=Sp.below fJ.s hb;have hbk2:=fJ.bk HP.s.s HP.o HP.bk;obtain⟨A,fr,hh⟩:=hT2;refine⟨(HP.s.trans fJ).call hb,fM.bk fJ.s ho2 hbk2,hO.iy hb,⟨A,fr,(hb.block B hO.1.1).trans hh⟩,⟨by rw[<-fV];simp,fun j v hv=>?_⟩,fJ.s.other (ah _)⟩;rw[<-fV];exact((OwnB.new w2 _ 61).1.2 j).trans (by simpa[hL,v5] using hv)
   obtain⟨fn,tmps,assign,body,hy,hR⟩:=HY.out k (d2,w2.heap.size) w3 fE H3.2.1 ⟨H3.1,ho2,⟨d1.p,HP.j,e2⟩,H3.2.2.2.2⟩;have c1:=hO.1.cell 1 rfl;have c2:=hO.1.cell 2 rfl;have c3:=hO.1.cell 3 rfl;have c4:=hO.1.cell 4 rfl;have c5:=hO.1.cell 5 rfl;have c6:=hO.1.cell 6 rfl;have c7:=hO.1.cell 7 rfl;have c8:=hO.1.cell 8 rfl;have c9:=hO.1.cell 9 rfl;have c10:=hO.1.cell 10 rfl;have lB2:=hO.1.1;have He2:Hid (d2.p=d1.p.tick):=e2;clear fJ e2 ho2 hO hT2 hnB;gi_wp2;refine hR.mono ?_;rintro e w4 ⟨rfl,OU,⟨d4,fO,Jr,XI⟩,OT⟩;have H4:Hid (Sp X d0 w0 d4 w4/\jl X d4 S/\J (k+1) d4.p/\BK l D r w4):=⟨fO,Jr,XI,OU⟩;have hO4:OwnB w4 B (fC true (q k)):=by
    obtain⟨A,fr,hh⟩:=H3.2.2.2.1;have hn:¬stB X d2 B:=H3.1.s.Oj (qw.to (by rw[He2.out];exact HP.o.tp)) H3.2.2.2.1 (H3.2.2.1.1.cell 0 rfl);have:=OT B _ hh rfl hn;exact H3.2.2.1.same hh this
   clear fO Jr XI OU OT hR hy fV c0 c1 c2 c3 c4 c5 c6 c7 c8 c9 c10 lB2 lB;have c0:=hO4.1.cell 0 rfl;have c1:=hO4.1.cell 1 rfl;have c2:=hO4.1.cell 2 rfl;have c3:=hO4.1.cell 3 rfl;have c4:=hO4.1.cell 4 rfl;have c5:=hO4.1.cell 5 rfl;have c6:=hO4.1.cell 6 rfl;have c7:=hO4.1.cell 7 rfl;have c8:=hO4.1.cell 8 rfl;have c9:=hO4.1.cell 9 rfl;have c10:=hO4.1.cell 10 rfl;have c11:w4.cell? ⟨B,11,none⟩=some (.int .i64 ((k:Int)+1)):=by
    have:w4.cell? ⟨B,11,none⟩=some (.int .i64 (q k).turn):=hO4.1.cell 11 rfl;rw[HT.out k fE] at this;exact this
   have lB:=hO4.1.1;clear hO4;gi_wp2;obtain⟨w5,hw5⟩:∃w5,w4.alloc (.cells #[.bool true,.int .i64 (q k).key.k,.int .i64 (q k).key.n,.float .f64 (q k).key.f,.string (q k).key.s,.int .i64 (q k).key.r,.int .i64 (q k).val.k,.int .i64 (q k).val.n,.float .f64 (q k).val.f,.string (q k).val.s,.int .i64 (q k).val.r,.int .i64 ((k:Int)+1)] 386)=w5:=⟨_,rfl⟩;obtain⟨B5,uy⟩:∃B5,w4.heap.size=B5:=⟨_,rfl⟩;obtain⟨p5,qY⟩:∃p5:PD,(⟨(q k).key,(q k).val,(k:Int)+1⟩:PD)=p5:=⟨_,rfl⟩;obtain⟨A5,P9⟩:∃A5:Array Value,fC true p5=A5:=⟨_,rfl⟩;have H5:Hid (Sp X d0 w0 d4 w5/\jl X d4 S/\J (k+1) d4.p/\BK l D r w5/\OwnB w5 B5 A5/\jC w5 B5 386/\A5.size=12/\¬stB X d4 B5/\w0.heap.size<=B5/\St X d0 w0):=by
    rw[<-hw5,<-uy,show #[.bool true,.int .i64 (q k).key.k,.int .i64 (q k).key.n,.float .f64 (q k).key.f,.string (q k).key.s,.int .i64 (q k).key.r,.int .i64 (q k).val.k,.int .i64 (q k).val.n,.float .f64 (q k).val.f,.string (q k).val.s,.int .i64 (q k).val.r,.int .i64 ((k:Int)+1)]=A5 from(by rw[<-P9,<-qY])];have hs:=Sp.below H4.1.s (q01 w4 (.cells A5 386));exact⟨H4.1.trans hs,H4.2.1,H4.2.2.1,hs.bk H4.1.s H4.2.1 H4.2.2.2,OwnB.new _ _ _,⟨_,_,World.alloc_heap_new _ _⟩,by rw[<-P9];rfl,H4.1.s.other (ah _),H4.1.g.size,Md.out⟩
   have g11:w5.cell? ⟨B5,11,none⟩=some (.int .i64 ((k:Int)+1)):=H5.2.2.2.2.1.1.cell 11 (by rw[<-P9,<-qY];rfl);have z5:=H5.2.2.2.2.1.2;have l5:=H5.2.2.2.2.1.1.1;rw[hw5,uy];have DF:Hid (∀w,gZ w5 w->OwnB w B5 (fC true p5)):=fun w hb=>by rw[P9];exact H5.2.2.2.2.1.iy hb
   clear hw5 uy P9 qY H4 c0 c1 c2 c3 c4 c5 c6 c7 c8 c9 c10 c11 lB;have HFk:Hid (∀w,gZ w5 w->Calls Tryz.prog 307 #[.pointer (some ⟨K,0,none⟩),.int .i64 ((k:Int)+1)] w fun e W'=>∃f p,e=.returned (LM f p)/\fC f p=fK q N (k+1)/\gZ w W'):=fun w hb=>Qv.out d4 w (k+1) _ (by omega) (by omega) (H5.1.s.call hb) H5.2.1;clear Qv HY;refine dZ.2 ?_
   go_region_with (go_at_call 307;refine(HFk.out _ (by first|exact ay _ _|exact(ay _ _).drew)).mono ?_;rintro e w6 ⟨f6,p6,rfl,hf6,eY⟩;have H6:Hid (fC f6 p6=fK q N (k+1)/\gZ w5 w6):=⟨hf6,(by first|exact eY|exact iq (ay _ _).drew eY)⟩;have k6:=DF.out w6 H6.2;have z6:∀o,w6.frozen? ⟨B5,o,none⟩=false:=k6.2;have l6:B5<w6.heap.size:=k6.1.1;have r0:=k6.1.cell 0 rfl;have r1:=k6.1.cell 1 rfl;have r2:=k6.1.cell 2 rfl;have r3:=k6.1.cell 3 rfl;have r4:=k6.1.cell 4 rfl;have r5:=k6.1.cell 5 rfl;have r6:=k6.1.cell 6 rfl;have r7:=k6.1.cell 7 rfl;have r8:=k6.1.cell 8 rfl;have r9:=k6.1.cell 9 rfl;have r10:=k6.1.cell 10 rfl;have r11:=k6.1.cell 11 rfl;clear hf6 eY k6)
   all_goals
    obtain⟨OZ,TK⟩:=Oi (DF.out w6 H6.2) rfl (.bool f6) (.int .i64 p6.key.k) (.int .i64 p6.key.n) (.float .f64 p6.key.f) (.string p6.key.s) (.int .i64 p6.key.r) (.int .i64 p6.val.k) (.int .i64 p6.val.n) (.float .f64 p6.val.f) (.string p6.val.s) (.int .i64 p6.val.r) (.int .i64 p6.turn);have XV:=PE (H5.2.2.2.2.2.1.keep (H6.2.block B5 H5.2.2.2.2.1.1.1)) (.bool f6) (.int .i64 p6.key.k) (.int .i64 p6.key.n) (.float .f64 p6.key.f) (.string p6.key.s) (.int .i64 p6.key.r) (.int .i64 p6.val.k) (.int .i64 p6.val.n) (.float .f64 p6.val.f) (.string p6.val.s) (.int .i64 p6.val.r) (.int .i64 p6.turn);have eY:BK l D r w6:=(Sp.below H5.1.s H6.2).bk H5.1.s H5.2.1 H5.2.2.2.1;have XW:=H5.2.2.2.2.2.1.keep (H6.2.block B5 H5.2.2.2.2.1.1.1);rw[show #[.bool f6,.int .i64 p6.key.k,.int .i64 p6.key.n,.float .f64 p6.key.f,.string p6.key.s,.int .i64 p6.key.r,.int .i64 p6.val.k,.int .i64 p6.val.n,.float .f64 p6.val.f,.string p6.val.s,.int .i64 p6.val.r,.int .i64 p6.turn]=fK q N (k+1) from H6.1] at OZ;have nl:l≠B5:=fun e=>by
     obtain⟨_,_,hh⟩:=XW;rw[<-e,eY.1] at hh;nomatch hh
    have nD:D≠B5:=fun e=>by
     obtain⟨_,_,hh⟩:=XW;rw[<-e,eY.2] at hh;nomatch hh
    have HP7:Hid (Yp X d0 w0 S J q N l D r (k+1) d4 B5 _):=⟨Sp.ni (D:=B5) (H5.1.call H6.2) TK H5.2.2.2.2.2.2.2.1 H5.2.2.2.2.2.2.2.2.1 Md.out,H5.2.1,H5.2.2.1,⟨(TK.block l (aA.1 eY.1).1 nl).trans eY.1,(TK.block D (aA.1 eY.2).1 nD).trans eY.2⟩,OZ,XV⟩;clear OZ TK XV eY XW nl nD;go_roundw
    case rel=>
     exact⟨_,_,_,_,_,_,_,_,_,_,_,_,_,_,_,_,_,_,_,_,_,_,_,⟨k+1,d4,B5,by omega,rfl,HP7⟩,rfl⟩
    case measure=>
     show Ol N (.pointer (some ⟨B5,0,none⟩)) _<Ol N (.pointer (some ⟨B,0,none⟩)) wr;rw[j80 HP7.c HT.out (by omega),j80 HP.c HT.out (by omega)];omega
  ·obtain rfl:k=N:=by omega
   have c0:wr.cell? ⟨B,0,none⟩=some (.bool false):=by
    have:=HP.c.1.cell 0 rfl;rw[this];simp
   have lB:=HP.c.1.1;gi_wp2;go_end0;exact⟨⟨_,rfl⟩,HP.bk,d1,HP.s,HP.o,HP.j⟩
theorem yw1(X:RX)(d0:MD)(w0:World)(hst:St X d0 w0)(S:TS)(J:Nat->DP->Prop)(t N b c:Nat)(hnt:t<S.nt)(hN:(S.D t).n=N)(ht:∀i,i<N->((S.D t).q i).turn=(i:Int)+1)(P5:N<=1000)(hti:∀k p,k<N->J k p->p.ti<X.tk)(l D:Nat)(r:Loop)(W:World)(hb:Has W b #[ptr X.M])(hc:Has W c #[ptr (S.K t)])(hbk:BK l D r W)(h0:EI X d0 w0 S J 0 W)(hY:∀k x W1,k<N->BK l D r W1->EP X d0 w0 S J (S.D t).q k x W1->YieldAt Fence.wide 1 Tryz.prog l #[.slice (some ⟨x.2,0,none⟩) 2 2] W1 fun e W'=>e=.returned (.bool true)/\BK l D r W'/\EI X d0 w0 S J (k+1) W'/\jW (stB X x.1) W1 W'):CallsIn Fence.wide 2 Tryz.prog 258 #[.func (.yield l) #[] #[],ptr b,ptr c] W fun e W'=>(∃v,e=.returned v)/\BK l D r W'/\EI X d0 w0 S J N W':=by
 have HP:Hid (CallsIn Fence.wide 2 Tryz.prog 259 #[ptr X.M,ptr (S.K t),.func (.yield l) #[] #[]] W fun e W'=>(∃v,e=.returned v)/\BK l D r W'/\EI X d0 w0 S J N W'):=yk0 X d0 w0 hst S J t N hnt hN ht P5 hti l D r W hbk h0 hY;have b0:=hb.cell 0 rfl;have c0:=hc.cell 0 rfl;have lb:=hb.1;have lc:=hc.1;refine dP.2 ((dP (n:=3)).1 ?_);refine dX Tryz.func258 rfl trivial ?_ rfl;simp only[Tryz.ntmps258,List.size_toArray,List.length_cons,List.length_nil,Nat.reduceAdd,Nat.reduceSub,Array.replicate_succ,Array.replicate_zero,List.push_toArray,List.append_toArray,List.nil_append,List.cons_append];gi_wp2;refine⟨trivial,HP.mono ?_⟩;rintro e w1 ⟨⟨v,rfl⟩,h1⟩;have H1:Hid (BK l D r w1/\EI X d0 w0 S J N w1):=h1;gi_wp2;go_end0;exact⟨⟨_,rfl⟩,H1⟩
theorem j43(qs:List (Nat×Nat))(i j:Nat)(h:qs.map Prod.fst=[i,j]):∃Q P,qs=[(i,Q),(j,P)]:=by
 cases qs with
 |nil=>simp at h
 |cons x qs=>
  cases qs with
  |nil=>simp at h
  |cons y qs=>
   cases qs with
   |nil=>
    obtain⟨e1,e2⟩:x.1=i/\y.1=j:=by simpa using h
    exact⟨x.2,y.2,by rw[<-e1,<-e2]⟩
   |cons z qs=>simp at h
def yu6(X:RX)(d:MD)(u:World)(S:TS)(J:Nat->DP->Prop)(q:Nat->PD)(N G i1 i2:Nat)(gs:Array Value):Prop:=∀(k:Nat) (d1 d2:MD) (w1 w2:World) (Q1 Q2:Nat),k<N->Sp X d u d1 w1->jl X d1 S->(∃p,J k p/\d1.p=p.tick)->Sp X d1 w1 d2 w2->d2.p=d1.p.decl [(i1,Q1),(i2,Q2)]->Bx X d2 w2 Q1 (vA (q k).key)->Bx X d2 w2 Q2 (vA (q k).val)->Calls Tryz.prog G (#[ptr X.F]++gs) w2 fun e w'=>kK X d2 w2 (fun way d' _=>way=.nilIface/\jl X d' S/\d1.sc.length<=d'.sc.length/\J (k+1) (d'.p.wU d1.sc.length)) e w'
def Ui(X:RX)(d1:MD)(W:World)(S:TS)(J:Nat->DP->Prop)(k:Nat)(W':World):Prop:=∃d',Sp X d1 W d' W'/\jl X d' S/\J (k+1) d'.p
theorem zf4(X:RX)(d:MD)(u:World)(S:TS)(J:Nat->DP->Prop)(q:Nat->PD)(N G i1 i2 rb ro rc g k:Nat)(gs:Array Value)(d1:MD)(W:World)(fG:Oo X rb ro (.int .i64 (i1:Int)))(hr2:Oo X rb (ro+1) (.int .i64 (i2:Int)))(hi1:i1<X.nv)(hi2:i2<X.nv)(hE:tq G)(hb:yu6 X d u S J q N G i1 i2 gs)(hk:k<N)(hs:Sp X d u d1 W)(ho:jl X d1 S)(hJ:∃p,J k p/\d1.p=p.tick)(hg:Bl X d1 W g [(q k).key,(q k).val])(hsc:∀k p,k<N->J k p->p.sc.length<=900):Calls Tryz.prog 209 #[ptr X.F,.slice (some ⟨rb,ro,none⟩) 2 rc,.slice (some ⟨g,0,none⟩) 2 2,iE G gs] W fun e w'=>e=.returned .nilIface/\Ui X d1 W S J k w':=by
 have hsc1:d1.sc.length<=900:=by
  obtain⟨p,h1,h2⟩:=hJ;have e:d1.sc=p.sc:=aJ DP.sc h2;rw[e];exact hsc k p hk h1
 refine(zh3 X d1 W rb ro rc g 2 2 G [i1,i2] [(q k).key,(q k).val] gs (fun way d' _=>way=.nilIface/\jl X d' S/\J (k+1) (d'.p.wU d1.sc.length)) hs.s (fun d' w' h1 j i hj=>?_) (fun j i hj=>?_) hg rfl rfl (by omega) hsc1 hE (fun w hd=>?_)).mono ?_
 ·match j,hj with
  |0,hj=>
   obtain rfl:i1=i:=by simpa using hj
   exact fG.at h1.s
  |1,hj=>
   obtain rfl:i2=i:=by simpa using hj
   exact hr2.at h1.s
  |j+2,hj=>simp at hj
 ·match j,hj with
  |0,hj=>
   obtain rfl:i1=i:=by simpa using hj
   exact hi1
  |1,hj=>
   obtain rfl:i2=i:=by simpa using hj
   exact hi2
  |j+2,hj=>simp at hj
 ·obtain⟨qs,d2,hq,h1,h2,h3⟩:=hd;obtain⟨Q1,Q2,rfl⟩:=j43 qs i1 i2 hq;refine(hb k d1 d2 W w Q1 Q2 hk hs ho hJ h1 h2 (h3 0 _ _ rfl rfl) (h3 1 _ _ rfl rfl)).mono ?_;rintro e w' ⟨way,d',rfl,h4,h5,h6,h7,h8⟩;exact⟨way,d',rfl,h1.trans h4,⟨h5,h6,h8⟩,h7⟩
 ·rintro e w' ⟨way,d',rfl,h1,d4,w4,⟨rfl,h5,h6⟩,h7,h8⟩;exact⟨rfl,d',h1,qw.to (by rw[h8];exact h5.tp),by rw[h8];exact h6⟩
end
section
open Go.RowKit
attribute [local go_sem] iD
attribute [local go_sem ↓] Go.wp_at_zero Go.wp_at_succ
attribute [local go_sem] Oper.semAt_some
theorem jk.call{X:RX}{d:MD}{u w:World}{B:Nat}{A:Array Value}(h:jk X d u B A)(hb:gZ u w):jk X d w B A:=⟨h.1.iy hb,h.2⟩
theorem jk.drew{X:RX}{d:MD}{u:World}{B:Nat}{A:Array Value}(h:jk X d u B A):jk X d u.drew B A:=h.call (ay _ _).drew
theorem jb3{P:Program}{c:Code}{K:Act->World->Prop}{Q':Exit->Act->World->Prop}{a:Act}{w:World}(h:c.wp P (Exit.then K fun _ _ _=>False) a w):c.wp P (Exit.then K Q') a w:=
 (dZ (n:=0)).1 (wpIn_mono ((dZ (n:=0)).2 h) fun e a w hp=>by cases e<;>first|exact hp|exact hp.elim)
theorem jk.Ob{X:RX}{d d1:MD}{u w:World}{C:Nat}(h:jk X d1 w C z5)(hs:Sp X d u d1 w)(h0:St X d u)(hC:u.heap.size<=C)(v0 v1 v2 v3 v4:Value):Sp X d u d1 (((((w.setCell ⟨C,0,none⟩ v0).setCell ⟨C,1,none⟩ v1).setCell ⟨C,2,none⟩ v2).setCell ⟨C,3,none⟩ v3).setCell ⟨C,4,none⟩ v4)/\jk X d1 (((((w.setCell ⟨C,0,none⟩ v0).setCell ⟨C,1,none⟩ v1).setCell ⟨C,2,none⟩ v2).setCell ⟨C,3,none⟩ v3).setCell ⟨C,4,none⟩ v4) C #[v0,v1,v2,v3,v4]/\(∀B A,B≠C->jk X d1 w B A->jk X d1 (((((w.setCell ⟨C,0,none⟩ v0).setCell ⟨C,1,none⟩ v1).setCell ⟨C,2,none⟩ v2).setCell ⟨C,3,none⟩ v3).setCell ⟨C,4,none⟩ v4) B A):=by
 have g:Gx (fun k=>k=C) w (((((w.setCell ⟨C,0,none⟩ v0).setCell ⟨C,1,none⟩ v1).setCell ⟨C,2,none⟩ v2).setCell ⟨C,3,none⟩ v3).setCell ⟨C,4,none⟩ v4):=Gx.nZ (Gx.nZ (Gx.nZ (Gx.nZ (Gx.nZ (Gx.refl _ _) 0 v0) 1 v1) 2 v2) 3 v3) 4 v4;refine⟨Sp.ni (D:=C) hs g h.2 hC h0,⟨?_,h.2⟩,fun B A hne hB=>⟨hB.1.block g.size (g.block B hB.1.1.1 hne),hB.2⟩⟩;exact((((h.1.set (o:=0) (by simp) v0).set (o:=1) (by simp) v1).set (o:=2) (by simp) v2).set (o:=3) (by simp) v3).set (o:=4) (by simp) v4
theorem zp5(X:RX)(d:MD)(u:World)(x1 x2 x3 x4 rb ro rc i1 i2 F G t N:Nat)(cs gs A3:Array Value)(S:TS)(kk:Option Nat)(J:Nat->DP->Prop)(h:St X d u)(o:jl X d S)(n1:Od X x1 #[ptr X.M])(n2:Od X x2 #[iE F cs])(n3:Od X x3 A3)(hA:A3[6]?=some (.slice (some ⟨rb,ro,none⟩) 2 rc))(fG:Oo X rb ro (.int .i64 (i1:Int)))(hr2:Oo X rb (ro+1) (.int .i64 (i2:Int)))(hi1:i1<X.nv)(hi2:i2<X.nv)(n4:Od X x4 #[iE G gs])(hs:rD X F cs d u d.p (jr t) (·=d.p))(hnt:t<S.nt)(vt:S.tv t=ptr (S.K t))(hk:vH S t kk)(hh:(hdl S kk MR).k=0)(hN:(S.D t).n=N)(ht:∀i,i<N->((S.D t).q i).turn=(i:Int)+1)(P5:N<=1000)(OM:d.held.length<=90000)(hJ0:J 0 (d.p.hold [jr t]))(hti:∀k p,k<N->J k p->p.ti<X.tk)(hsc:∀k p,k<N->J k p->p.sc.length<=900)(hJN:∀p,J N p->p.held=d.held++[jr t])(hE:tq G)(hb:yu6 X d u S J (S.D t).q N G i1 i2 gs):Calls Tryz.prog 210 #[ptr X.F,ptr x1,ptr x2,ptr x3,ptr x4] u fun e w'=>kK X d u (fun way d' _=>way=.nilIface/\∃p,J N p/\d'.p=p.kH d.held.length) e w':=by
 have HS:Hid (St X d u/\jl X d S):=⟨h,o⟩;have HN:Hid (Od X x1 #[ptr X.M]/\Od X x2 #[iE F cs]/\Od X x3 A3/\Od X x4 #[iE G gs]/\A3[6]?=some (.slice (some ⟨rb,ro,none⟩) 2 rc)):=⟨n1,n2,n3,n4,hA⟩;have HE:Hid (∀d1 w,Sp X d u d1 w->d1.p=d.p->Calls Tryz.prog F (#[ptr X.F]++cs) w fun e w'=>Fh X d1 w (jr t) (·=d.p) e w'):=hs.2;have YF:Hid (∀d1 w,Sp X d u d1 w->d1.p=d.p->Calls Tryz.prog 211 #[ptr X.M,iJ 5 0 0 ⟨#[]⟩ (t:Int)] w fun e w'=>e=.returned (iJ 5 0 0 ⟨#[]⟩ (t:Int))/\gZ w w'):=fun d1 w h1 h2=>zf1 X t (hdl S kk MR) w hh fun w2 eG=>qz8 X d1 S t kk MR w2 (h1.s.call eG) (qw.to (by rw[h2];exact o.tp)) hnt vt hk;have HTh:Hid (∀d1 w,Sp X d u d1 w->jl X d1 S->Calls Tryz.prog 212 #[ptr X.M,iJ 5 0 0 ⟨#[]⟩ (t:Int)] w fun e w'=>∃b c,e=.returned (RF b c)/\OwnB w' b #[ptr X.M]/\OwnB w' c #[ptr (S.K t)]/\w.heap.size<=b/\w.heap.size<=c/\gZ w w'):=fun d1 w h1 h2=>zl1 X t (S.K t) w fun w2 eG=>O9 X d1 S t w2 (h1.s.call eG) h2 hnt vt;have Kq:Hid (∀(d0:MD) (w0:World) (b c l D:Nat) (r:Loop) (W:World),St X d0 w0->Has W b #[ptr X.M]->Has W c #[ptr (S.K t)]->BK l D r W->EI X d0 w0 S J 0 W->(∀k x W1,k<N->BK l D r W1->EP X d0 w0 S J (S.D t).q k x W1->YieldAt Fence.wide 1 Tryz.prog l #[.slice (some ⟨x.2,0,none⟩) 2 2] W1 fun e W'=>e=.returned (.bool true)/\BK l D r W'/\EI X d0 w0 S J (k+1) W'/\jW (stB X x.1) W1 W')->CallsIn Fence.wide 2 Tryz.prog 258 #[.func (.yield l) #[] #[],ptr b,ptr c] W fun e W'=>(∃v,e=.returned v)/\BK l D r W'/\EI X d0 w0 S J N W'):=fun d0 w0 b c l D r W h0 hb hc hbk he hy=>yw1 X d0 w0 h0 S J t N b c hnt hN ht P5 hti l D r W hb hc hbk he hy;have U7:Hid (∀(g k:Nat) (d1:MD) (W:World),k<N->Sp X d u d1 W->jl X d1 S->(∃p,J k p/\d1.p=p.tick)->Bl X d1 W g [((S.D t).q k).key,((S.D t).q k).val]->Calls Tryz.prog 209 #[ptr X.F,.slice (some ⟨rb,ro,none⟩) 2 rc,.slice (some ⟨g,0,none⟩) 2 2,iE G gs] W fun e w'=>e=.returned .nilIface/\Ui X d1 W S J k w'):=fun g k d1 W hk h1 h2 h3 h4=>zf4 X d u S J (S.D t).q N G i1 i2 rb ro rc g k gs d1 W fG hr2 hi1 hi2 hE hb hk h1 h2 h3 h4 hsc;have HJ:Hid (J 0 (d.p.hold [jr t])/\(∀p,J N p->p.held=d.held++[jr t])/\d.held.length<=90000):=⟨hJ0,hJN,OM⟩;have hEF:∀args w,(callFunc F args).run Tryz.prog w=.ok (.enter F args) w:=hs.1;have a1:=(n1.at h).cell 0 rfl;have a2:=(n2.at h).cell 0 rfl;have l1:=(n1.at h).1;have l2:=(n2.at h).1;clear h o n1 n2 n3 hA fG hr2 hi1 hi2 n4 hs vt hk hh hN ht P5 OM hJ0 hti hsc hJN hE hb;generalize S.K t=K at HTh Kq;generalize (S.D t).q=q at Kq U7;refine dP.1 (callsIn_of_wp_marks (F:=Fence.wide) (n:=3) Tryz.func210 rfl trivial ?_ rfl);simp only[Tryz.ntmps210,List.size_toArray,List.length_cons,List.length_nil,Nat.reduceAdd,Nat.reduceSub,Array.replicate_succ,Array.replicate_zero,List.push_toArray,List.append_toArray,List.nil_append,List.cons_append];refine dZ.2 ?_
 go_upto_region 1 with fail
 obtain⟨w0,hw0⟩:∃w0,(u.alloc (.cells #[ptr X.F] 129)).alloc (.cells #[.nilIface] 132)=w0:=⟨_,rfl⟩;obtain⟨B5,uy⟩:∃B5,u.heap.size=B5:=⟨_,rfl⟩;obtain⟨B6,LG⟩:∃B6,u.heap.size+1=B6:=⟨_,rfl⟩;have H0:Hid (gZ u w0/\jk X d w0 B5 #[ptr X.F]/\jk X d w0 B6 #[.nilIface]/\u.heap.size<=B5/\u.heap.size<=B6):=by
  rw[<-hw0,<-uy,<-LG];exact⟨(q01 _ _).alloc (by rw[aN];omega) _,(jk.new HS.1 _ _).alloc _,⟨zN _ _ _ _,HS.1.other (by omega)⟩,by omega,by omega⟩
 rw[hw0,LG,uy];clear hw0 uy LG a1 a2 l1 l2;have BQ:=Sp.below HS.1 H0.1;have a1:=(HN.1.at BQ.s).cell 0 rfl;have a2:=(HN.2.1.at BQ.s).cell 0 rfl;have l1:=(HN.1.at BQ.s).1;have l2:=(HN.2.1.at BQ.s).1;have b5:=H0.2.1.1.1.cell 0 rfl;have l5:=H0.2.1.1.1.1;clear BQ;have Qy:Hid (Sp X d u d w0.drew/\jk X d w0.drew B5 #[ptr X.F]/\jk X d w0.drew B6 #[.nilIface]):=⟨Sp.below HS.1 H0.1.drew,H0.2.1.drew,H0.2.2.1.drew⟩;have HA1:Hid (Sp X d u d (w0.alloc (.cells z5 61)).drew/\jk X d (w0.alloc (.cells z5 61)).drew B5 #[ptr X.F]/\jk X d (w0.alloc (.cells z5 61)).drew B6 #[.nilIface]/\jk X d (w0.alloc (.cells z5 61)).drew w0.heap.size z5):=⟨Sp.below HS.1 (iq H0.1 (q01 _ _)).drew,(H0.2.1.alloc _).drew,(H0.2.2.1.alloc _).drew,(jk.new (Sp.below HS.1 H0.1).s _ _).drew⟩
 go_cut [7] from 11 (fun s7 wc=>∃d1 B7,s7=.pointer (some ⟨B7,0,none⟩)/\Hid (Sp X d u d1 wc/\d1.p=d.p/\jk X d1 wc B5 #[ptr X.F]/\jk X d1 wc B6 #[.nilIface]/\Bx X d1 wc B7 (vA (jr t))))
 case first=>
  go_region_with (first
   |(go_at_call 211;first
    |((with_reducible refine(YF.out d1 (w1.alloc (.cells z5 61)) (H1.out.1.alloc _) H1.out.2.1).mono ?_);rintro e w2 ⟨rfl,eG⟩;have H2:Hid (Sp X d u d1 w2/\d1.p=d.p/\jk X d1 w2 B5 #[ptr X.F]/\jk X d1 w2 B6 #[.nilIface]/\jk X d1 w2 w1.heap.size z5/\u.heap.size<=w1.heap.size/\B5≠w1.heap.size/\B6≠w1.heap.size):=⟨(H1.out.1.alloc _).call eG,H1.out.2.1,(H1.out.2.2.1.alloc _).call eG,(H1.out.2.2.2.alloc _).call eG,(jk.new H1.out.1.s _ _).call eG,H1.out.1.g.size,bI H1.out.2.2.1.1.1.1,bI H1.out.2.2.2.1.1.1⟩;have hO:=H2.out.2.2.2.2.1.1;have r0:=hO.1.cell 0 rfl;have r1:=hO.1.cell 1 rfl;have r2:=hO.1.cell 2 rfl;have r3:=hO.1.cell 3 rfl;have r4:=hO.1.cell 4 rfl;have rz:=hO.2;have rl:=hO.1.1;clear hO eG)
    |((with_reducible refine(YF.out d1 w1 H1.out.1 H1.out.2.1).mono ?_);rintro e w2 ⟨rfl,eG⟩;first
     |(have H2:Hid (Sp X d u d1 w2/\d1.p=d.p/\jk X d1 w2 B5 #[ptr X.F]/\jk X d1 w2 B6 #[.nilIface]/\jk X d1 w2 w0.heap.size z5/\u.heap.size<=w0.heap.size/\B5≠w0.heap.size/\B6≠w0.heap.size):=⟨H1.1.call eG,H1.2.1,H1.2.2.1.call eG,H1.2.2.2.call eG,HAe.call eG,H0.1.size,bI H0.2.1.1.1.1,bI H0.2.2.1.1.1.1⟩;have hO:=H2.2.2.2.2.1.1;have r0:=hO.1.cell 0 rfl;have r1:=hO.1.cell 1 rfl;have r2:=hO.1.cell 2 rfl;have r3:=hO.1.cell 3 rfl;have r4:=hO.1.cell 4 rfl;have rz:=hO.2;have rl:=hO.1.1;clear hO eG)
     |(have H2:Hid (Sp X d u d1 w2/\d1.p=d.p/\jk X d1 w2 B5 #[ptr X.F]/\jk X d1 w2 B6 #[.nilIface]):=⟨H1.1.call eG,H1.2.1,H1.2.2.1.call eG,H1.2.2.2.call eG⟩;clear eG)))
   |((with_reducible refine(HE.out d w0.drew Qy.out.1 rfl).mono ?_);rintro e w1 ⟨d1,rfl,fH,e1⟩;have H1:Hid (Sp X d u d1 w1/\d1.p=d.p/\jk X d1 w1 B5 #[ptr X.F]/\jk X d1 w1 B6 #[.nilIface]):=⟨Qy.out.1.trans fH,e1,Qy.out.2.1.step fH,Qy.out.2.2.step fH⟩;have a1':=(HN.out.1.at H1.out.1.s).cell 0 rfl;have Tc:=(HN.out.1.at H1.out.1.s).1;clear fH e1)
   |((with_reducible refine(HE.out d (w0.alloc (.cells z5 61)).drew HA1.out.1 rfl).mono ?_);rintro e w1 ⟨d1,rfl,fH,e1⟩;have H1:Hid (Sp X d u d1 w1/\d1.p=d.p/\jk X d1 w1 B5 #[ptr X.F]/\jk X d1 w1 B6 #[.nilIface]):=⟨HA1.out.1.trans fH,e1,HA1.out.2.1.step fH,HA1.out.2.2.1.step fH⟩;have HAe:Hid (jk X d1 w1 w0.heap.size z5):=HA1.out.2.2.2.step fH;have a1':=(HN.out.1.at H1.out.1.s).cell 0 rfl;have Tc:=(HN.out.1.at H1.out.1.s).1;clear fH e1))
  all_goals first
   |(have HZ:Hid (∃B7,(Value.pointer (some ⟨w2.heap.size,0,none⟩):Value)=.pointer (some ⟨B7,0,none⟩)/\(fun wc=>Hid (Sp X d u d1 wc/\d1.p=d.p/\jk X d1 wc B5 #[ptr X.F]/\jk X d1 wc B6 #[.nilIface]/\Bx X d1 wc B7 (vA (jr t)))) (w2.alloc (.cells (vA (jr t)) 61))):=⟨_,rfl,H2.1.alloc _,H2.2.1,H2.2.2.1.alloc _,H2.2.2.2.alloc _,Bx.new H2.1.s _ _⟩
     clear H2;go_wp2_with fail
     go_meet
     exact⟨d1,HZ⟩)
   |(have qY:=H2.2.2.2.2.1.Ob H2.1 HS.1 H2.2.2.2.2.2.1 (.int .i64 5) (.int .i64 0) (.float .f64 0) (.string ⟨#[]⟩) (.int .i64 (t:Int))
     have HZ:Hid (∃B7,(Value.pointer (some ⟨w1.heap.size,0,none⟩):Value)=.pointer (some ⟨B7,0,none⟩)/\(fun wc=>Hid (Sp X d u d1 wc/\d1.p=d.p/\jk X d1 wc B5 #[ptr X.F]/\jk X d1 wc B6 #[.nilIface]/\Bx X d1 wc B7 (vA (jr t)))) _):=⟨_,rfl,qY.1,H2.2.1,qY.2.2 _ _ H2.2.2.2.2.2.2.1 H2.2.2.1,qY.2.2 _ _ H2.2.2.2.2.2.2.2 H2.2.2.2.1,qY.2.1.bx⟩;clear H2 qY;go_wp2_with fail
     go_meet
     exact⟨d1,HZ⟩)
   |(have qY:=H2.2.2.2.2.1.Ob H2.1 HS.1 H2.2.2.2.2.2.1 (.int .i64 5) (.int .i64 0) (.float .f64 0) (.string ⟨#[]⟩) (.int .i64 (t:Int))
     have HZ:Hid (∃B7,(Value.pointer (some ⟨w0.heap.size,0,none⟩):Value)=.pointer (some ⟨B7,0,none⟩)/\(fun wc=>Hid (Sp X d u d1 wc/\d1.p=d.p/\jk X d1 wc B5 #[ptr X.F]/\jk X d1 wc B6 #[.nilIface]/\Bx X d1 wc B7 (vA (jr t)))) _):=⟨_,rfl,qY.1,H2.2.1,qY.2.2 _ _ H2.2.2.2.2.2.2.1 H2.2.2.1,qY.2.2 _ _ H2.2.2.2.2.2.2.2 H2.2.2.2.1,qY.2.1.bx⟩;clear H2 qY;go_wp2_with fail
     go_meet
     exact⟨d1,HZ⟩)
 case rest=>
  rename World=>w3
  obtain⟨d3,B7,rfl,H3⟩:=hcut;have yJ:Hid (u.heap.size<=B6):=H0.2.2.2.2;clear a1 a2 l1 l2 b5 l5 Qy HA1 hEF HE YF H0;have b5:=H3.2.2.1.1.1.cell 0 rfl;have l5:=H3.2.2.1.1.1.1;have f0:=H3.1.s.f.1.cell 0 rfl;have lF:=H3.1.s.f.1.1;have c0:=H3.2.2.2.2.cell 0 rfl;have c1:=H3.2.2.2.2.cell 1 rfl;have c2:=H3.2.2.2.2.cell 2 rfl;have c3:=H3.2.2.2.2.cell 3 rfl;have c4:=H3.2.2.2.2.cell 4 rfl;have l7:=H3.2.2.2.2.1.1;have HG:Hid (Has (w3.alloc (.cells (vA (jr t)) 61)).drew w3.heap.size (vA (jr t))):=Has.drew (Has.new _ _ _);have F9:Hid (St X d3 (w3.alloc (.cells (vA (jr t)) 61)).drew/\d3.held.length<=90000):=⟨(H3.1.s.alloc _).drew,by have e:d3.held=d.held:=aJ DP.held H3.2.1;have:=HJ.2.2;rw[e];exact this⟩
  go_upto_region 2 with fail
  go_cut [] from 11 (fun wc=>∃d4,Hid (Sp X d u d4 wc/\d4.p=d.p.hold [jr t]/\jk X d4 wc B5 #[ptr X.F]/\jk X d4 wc B6 #[.nilIface]/\Bx X d4 wc B7 (vA (jr t))))
  case first=>
   refine jb3 ?_
   go_region_with (go_at_call 194;refine(L8 X d3 _ (jr t) _ F9.1 F9.2 HG).mono ?_;rintro e w4 ⟨rfl,Xt⟩)
   all_goals
    obtain⟨d4,fO,e4⟩:=Xt;have hsp:Sp X d3 w3 d4 w4:=((Sp.refl H3.1.s).alloc _).drew.trans fO;have H4:Hid (Sp X d u d4 w4/\d4.p=d.p.hold [jr t]/\jk X d4 w4 B5 #[ptr X.F]/\jk X d4 w4 B6 #[.nilIface]/\Bx X d4 w4 B7 (vA (jr t))):=⟨H3.1.trans hsp,by rw[e4,H3.2.1],H3.2.2.1.step hsp,H3.2.2.2.1.step hsp,H3.2.2.2.2.step hsp⟩;clear fO e4 hsp;go_wp2_with fail
    go_meet
    exact⟨d4,H4⟩
  case rest=>
   rename World=>w4
   obtain⟨d4,H4⟩:=hcut;clear b5 l5 f0 lF c0 c1 c2 c3 c4 l7 HG F9 H3;have b5:=H4.2.2.1.1.1.cell 0 rfl;have l5:=H4.2.2.1.1.1.1;have c0:=H4.2.2.2.2.cell 0 rfl;have c1:=H4.2.2.2.2.cell 1 rfl;have c2:=H4.2.2.2.2.cell 2 rfl;have c3:=H4.2.2.2.2.cell 3 rfl;have c4:=H4.2.2.2.2.cell 4 rfl;have l7:=H4.2.2.2.2.1.1;have a1:=(HN.1.at H4.1.s).cell 0 rfl;have l1:=(HN.1.at H4.1.s).1;have Jr:jl X d4 S:=qw.to (by rw[H4.2.1];exact HS.2.tp);have Qg:Hid (jl X d4 S):=Jr;clear Jr;go_wp2_with fail;refine(HTh d4 w4 H4.1 Qg).mono ?_;rintro e w5 ⟨b,c,rfl,hb,hc,hbl,hcl,hbe⟩;have H5:Hid (Sp X d u d4 w5/\d4.p=d.p.hold [jr t]/\jk X d4 w5 B5 #[ptr X.F]/\jk X d4 w5 B6 #[.nilIface]/\OwnB w5 b #[ptr X.M]/\OwnB w5 c #[ptr K]):=⟨H4.1.call hbe,H4.2.1,H4.2.2.1.call hbe,H4.2.2.2.1.call hbe,hb,hc⟩;clear hb hc hbl hcl hbe b5 l5 c0 c1 c2 c3 c4 l7 a1 l1 H4;go_wp2_with fail;have Ug:Hid (∀j,j<S.nt->S.B j<w5.heap.size):=fun j hj=>((Qg.is H5.1.s).lt (.inl ⟨j,hj,.inr (.inl rfl)⟩)).2;refine(dZ (n:=3)).1 ?_;refine y86 (gf:=258) (lb:=#[.pointer (some ⟨b,0,none⟩),.pointer (some ⟨c,0,none⟩)]) rfl (enters_of Tryz.func258 (by kernel_rfl) rfl) (fun x:MD×Nat=>#[.slice (some ⟨x.2,0,none⟩) 2 2]) (fun _=>rfl) N (EP X d4 w5 S J q) (fun x=>stB X x.1) (EI X d4 w5 S J) ?seq (EI.own H5.1.s Ug.out) ⟨d4,Sp.refl H5.1.s,Qg.out,by rw[H5.2.1];exact HJ.1⟩ ?round ?done
   case seq=>
    intro l D r W hB hbk h0 hY;exact Kq d4 w5 b c l D r W H5.1.s (H5.2.2.2.2.1.iy hB).1 (H5.2.2.2.2.2.iy hB).1 hbk h0 hY
   case round=>
    rintro l k ⟨d1,g⟩ W hk hl ⟨fH,ho1,hj1,hg1⟩;have Qb:Hid (Sp X d4 w5 d1 W/\jl X d1 S/\(∃p,J k p/\d1.p=p.tick)/\Bl X d1 W g [(q k).key,(q k).val]/\w5.heap.size<=l):=⟨fH,ho1,hj1,hg1,hl⟩;clear fH ho1 hj1 hg1 hl;gi_wp2;refine⟨KeepsFrom.refl _ _,jW.refl,fun W2 hg2 hl2=>?_⟩;have H7:Hid (Sp X d4 w5 d1 W2/\jl X d1 S/\(∃p,J k p/\d1.p=p.tick)/\Bl X d1 W2 g [(q k).key,(q k).val]):=by
     obtain⟨fH,ho1,hj1,hg1,hl⟩:=Qb.out;obtain⟨ob,hlo,hoc⟩:=hl2;have hnl:¬stB X d1 l:=fH.s.zS ho1 hlo hoc fun j hj e=>by have:=Ug.out j hj;omega
     have hgl:some g≠some l:=fun e=>by
      obtain rfl:g=l:=by simpa using e
      obtain⟨ob',ho',hc'⟩:=cells_of_cell (hg1.1.2 0 (.int .i64 (q k).key.k) (by simp[hL,v5]));rw[hlo] at ho';cases ho';rw[hoc] at hc';cases hc'
     exact⟨Sp.ni (D:=l) fH ((Gx.grown hg2).mono (fun k e=>(aQ e).symm)) hnl hl H5.1.s,ho1,hj1,⟨aH hg1.1.1 hg2.size,fun j v hv=>(ak (a:=⟨g,j,none⟩) (hg2.block g hg1.1.1 hgl)).trans (hg1.1.2 j v hv)⟩,hg1.2⟩
    clear hg2 hl2 Qb;have b5:=(H5.2.2.1.step H7.1).1.1.cell 0 rfl;have l5:=(H5.2.2.1.step H7.1).1.1.1;have n3:=(HN.2.2.1.at H7.1.s).cell 6 HN.2.2.2.2;have l3:=(HN.2.2.1.at H7.1.s).1;have n4:=(HN.2.2.2.1.at H7.1.s).cell 0 rfl;have l4:=(HN.2.2.2.1.at H7.1.s).1;gi_wp2;refine⟨trivial,(CallsIn.inRound l (dP.2 (U7 g k d1 W2 hk (H5.1.trans H7.1) H7.2.1 H7.2.2.1 H7.2.2.2))).mono ?_⟩;rintro e W3 ⟨rfl,hr3⟩;have H8:Hid (Ui X d1 W2 S J k W3):=hr3;clear hr3 b5 l5 n3 l3 n4 l4;gi_wp2;refine⟨trivial,(CallsIn.inRound l (dP.2 (qu3 W3))).mono ?_⟩;rintro e W4 ⟨rfl,eU⟩;have H9:Hid (KeepsFrom w5.heap.size W2 W4/\EI X d4 w5 S J (k+1) W4/\jW (stB X d1) W2 W4):=by
     obtain⟨d',h1,h2,h3⟩:=H8.out;exact⟨(h1.call eU).kf H7.1.s H7.2.1 Ug,⟨d',(H7.1.trans h1).call eU,h2,h3⟩,(h1.call eU).ck⟩
    clear eU H8;gi_wp2;exact H9
   case done=>
    rintro D W hD ⟨d5,fP,yu,XH⟩ hK;have hnD:¬stB X d5 D:=fP.s.zS yu hK rfl fun j hj e=>by have:=Ug.out j hj;omega
    have H6:Hid (Sp X d u d5 W/\J N d5.p/\jk X d5 W B5 #[ptr X.F]/\jk X d5 W B6 #[.nilIface]/\W.heap[D]?=some (.deferred (some []))/\¬stB X d5 D/\u.heap.size<=D):=⟨H5.1.trans fP,XH,H5.2.2.1.step fP,H5.2.2.2.1.step fP,hK,hnD,aV H5.1.g.size hD⟩;clear fP yu XH hK hnD hD;have b5:=H6.2.2.1.1.1.cell 0 rfl;have l5:=H6.2.2.1.1.1.1;have f0:=H6.1.s.f.1.cell 0 rfl;have lF:=H6.1.s.f.1.1;have OM:d5.held=d.held++[jr t]:=HJ.2.1 _ H6.2.1;have hhl:d5.held.length=d.held.length+1:=by rw[OM];simp
    have hh9:=HJ.2.2;go_wp2_with fail;refine(Gp X d5 1 W H6.1.s (by omega) (by omega)).mono ?_;rintro e w6 ⟨rfl,d6,hs6,e6⟩;have hDl:D<W.heap.size:=(aA.1 H6.2.2.2.2.1).1;have Jw:=(H6.2.2.2.1.step hs6);have hD6:w6.heap[D]?=some (.deferred (some [])):=(hs6.g.block D hDl H6.2.2.2.2.2.1).trans H6.2.2.2.2.1;have hne:D≠B6:=fun e=>by
     obtain⟨ob,h1,h2⟩:=cells_of_cell (Jw.1.1.cell 0 rfl);rw[<-e,hD6] at h1;cases h1;cases h2
    have zY:Gx (fun k=>k=B6) w6 (w6.setCell ⟨B6,0,none⟩ .nilIface):=Gx.set _ _ _ _;have hs7:Sp X d u d6 (w6.setCell ⟨B6,0,none⟩ .nilIface):=Sp.ni (D:=B6) (H6.1.trans hs6) zY Jw.2 yJ.out HS.1;have hD7:(w6.setCell ⟨B6,0,none⟩ .nilIface).heap[D]?=some (.deferred (some [])):=(zY.block D (aA.1 hD6).1 hne).trans hD6;have hs8:Sp X d u d6 ((w6.setCell ⟨B6,0,none⟩ .nilIface).putObj D (.deferred none)):=Sp.ni (D:=D) hs7 ((Gx.grown (grownBy_putObj' _ D _)).mono (fun k e=>(aQ e).symm)) (fun c=>H6.2.2.2.2.2.1 (hs6.mv D hDl c)) H6.2.2.2.2.2.2 HS.1;have hc8:((w6.setCell ⟨B6,0,none⟩ .nilIface).putObj D (.deferred none)).cell? ⟨B6,0,none⟩=some .nilIface:=by
     rw[ak (a:=⟨B6,0,none⟩) (World.putObj_heap_other (bK hne))];exact(Jw.1.set (o:=0) (by simp) .nilIface).1.cell 0 rfl
    have H9:Hid ((w6.setCell ⟨B6,0,none⟩ .nilIface).heap[D]?=some (.deferred (some []))/\kK X d u (fun way d' _=>way=.nilIface/\∃p,J N p/\d'.p=p.kH d.held.length) (.returned .nilIface) ((w6.setCell ⟨B6,0,none⟩ .nilIface).putObj D (.deferred none))/\((w6.setCell ⟨B6,0,none⟩ .nilIface).putObj D (.deferred none)).cell? ⟨B6,0,none⟩=some .nilIface):=⟨hD7,⟨_,d6,rfl,hs8,rfl,d5.p,H6.2.1,by rw[e6,hhl];rfl⟩,hc8⟩;have r0:=Jw.1.1.cell 0 rfl;have rz:=Jw.1.2;have rl:=Jw.1.1.1;clear hs6 e6 hDl hD6 hne zY hs7 hD7 hs8 hc8 Jw b5 l5 f0 lF OM hhl hh9;go_wp2_with fail;refine⟨by simp,.inl ⟨_,_,rfl,run_takeDeferred H9.1,?_⟩⟩;have hc9:=H9.2.2;refine⟨.nilIface,?_,H9.2.1⟩;simp[results,Tryz.results210,go_sem,hc9]
end
end Go.Proofs.YthnkncpegihbhaaGreatDoor
