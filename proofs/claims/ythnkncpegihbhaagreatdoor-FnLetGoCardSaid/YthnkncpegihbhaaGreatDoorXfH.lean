import Derived.Test.YthnkncpegihbhaaGreatDoorXcD
import Derived.Test.YthnkncpegihbhaaGreatDoorVcO
set_option maxRecDepth 100000
set_option maxHeartbeats 16000000
namespace Go.Proofs.YthnkncpegihbhaaGreatDoor
section
variable {d:FD}{n kept:Nat}
theorem z66(n kept:Nat):∀a,a<iH n kept+13->((jJ n kept a).k≠27/\(jJ n kept a).k≠36/\(jJ n kept a).k≠37/\(jJ n kept a).k≠9/\(jJ n kept a).k≠10):=by
 refine MK (P:=fun _ T=>T.k≠27/\T.k≠36/\T.k≠37/\T.k≠9/\T.k≠10) (fun r hr=>?_) (fun i r hi hr=>?_) (fun j r hj hr=>?_) (fun t ht=>?_)
 ·rcases lt7 hr with rfl|rfl|rfl|rfl|rfl|rfl|rfl<;>simp[Fv]
 ·rcases lt7 hr with rfl|rfl|rfl|rfl|rfl|rfl|rfl<;>simp[Bj]
 ·rcases J7 hr with rfl|rfl|rfl|rfl|rfl<;>simp[Bh]
 ·rcases y9 ht with rfl|rfl|rfl|rfl|rfl|rfl|rfl|rfl|rfl|rfl|rfl|rfl|rfl<;>simp[Bg]
theorem z67(n kept:Nat):∀a,a<iH n kept+13->rY (jJ n kept a).k->(a=6/\(jJ n kept a).rs=[0])\/(∃i,i<kept/\a=7+7*i+1/\(jJ n kept a).rs=[i+1])\/(a=iH n kept+11/\(jJ n kept a).rs=[kept+1,kept+2]):=by
 refine MK (P:=fun a T=>rY T.k->(a=6/\T.rs=[0])\/(∃i,i<kept/\a=7+7*i+1/\T.rs=[i+1])\/(a=iH n kept+11/\T.rs=[kept+1,kept+2])) (fun r hr=>?_) (fun i r hi hr=>?_) (fun j r hj hr=>?_) (fun t ht=>?_)
 ·rcases lt7 hr with rfl|rfl|rfl|rfl|rfl|rfl|rfl
  case inr.inr.inr.inr.inr.inr=>exact fun _=>.inl ⟨rfl,rfl⟩
  all_goals(intro c;simp[Fv,rY] at c)
 ·rcases lt7 hr with rfl|rfl|rfl|rfl|rfl|rfl|rfl
  case inr.inl=>exact fun _=>.inr (.inl ⟨i,hi,rfl,rfl⟩)
  all_goals(intro c;simp[Bj,rY] at c)
 ·rcases J7 hr with rfl|rfl|rfl|rfl|rfl<;>(intro c;simp[Bh,rY] at c)
 ·rcases y9 ht with rfl|rfl|rfl|rfl|rfl|rfl|rfl|rfl|rfl|rfl|rfl|rfl|rfl
  case inr.inr.inr.inr.inr.inr.inr.inr.inr.inr.inr.inl=>exact fun _=>.inr (.inr ⟨rfl,rfl⟩)
  all_goals(intro c;simp[Bg,rY] at c)
theorem WF.PG(h:WF d n kept){k j v:Nat}(hj:j<k)(hk:k<3+kept+n)(h2:(d.nd (jq n kept j)).k=2)(hr:BG (d.nd (jq n kept j)) (v:Int)):vX d.nd d.nn (v:Int) (jq n kept k):=by
 have hC:=h.C (t:=12) (by omega);refine .here _ (iH n kept+12) k (h.yY (by omega) (by rw[uP];exact IY hk)) (.inl ⟨hC.k,j,hj,?_⟩);have e:(d.nd (iH n kept+12)).c j=((jq n kept j:Nat):Int):=hC.c j _ (IY (by omega));rw[e];exact⟨h2,hr⟩
theorem Iw{a:Nat}{T:sZ}{j v:Nat}(hz:l9 (d.nd a) T)(hv:T.rs[j]?=some v):BG (d.nd a) (v:Int):=⟨j,by rw[hz.rn];exact(aP.1 hv).1,hz.r j v hv⟩
theorem WF.Ib(h:WF d n kept){k:Nat}(hk:0<k)(hk2:k<3+kept+n):vX d.nd d.nn ((0:Nat):Int) (jq n kept k):=h.PG hk hk2 (h.H (a:=6) (by omega)).k (Iw (h.H (a:=6) (by omega)) (j:=0) rfl)
theorem WF.Vq(h:WF d n kept){i:Nat}(hi:i<kept)(hk:kept<=n):vX d.nd d.nn ((i+1:Nat):Int) (jq n kept (2+2*i)):=by
 have hA:=h.A hi (r:=1) (by omega);exact h.PG (j:=1+2*i) (by omega) (by omega) (by rw[Dh hi];exact hA.k) (by rw[Dh hi];exact Iw hA (j:=0) rfl)
theorem WF.vars(h:WF d n kept)(hk:kept<=n):∀a,a<iH n kept+13->(jJ n kept a).k=26->∃v:Nat,(jJ n kept a).rs[0]?=some v/\v<kept+3/\vX d.nd d.nn (v:Int) a:=by
 refine MK (P:=fun a T=>T.k=26->∃v:Nat,T.rs[0]?=some v/\v<kept+3/\vX d.nd d.nn (v:Int) a) (fun r hr=>?_) (fun i r hi hr=>?_) (fun j r hj hr=>?_) (fun t ht=>?_)
 ·rcases lt7 hr with rfl|rfl|rfl|rfl|rfl|rfl|rfl<;>(intro c;simp[Fv] at c)
 ·have kA:∀{q b z:Nat},q<7->(Bj i q).cs[b]?=some z->rZ d.nd d.nn (7+7*i+q) b z:=fun{q b z} q1 q2=>h.yY (by unfold iH;omega) (by rw[BH hi q1];exact q2);rcases lt7 hr with rfl|rfl|rfl|rfl|rfl|rfl|rfl
  case inr.inr.inl=>
   refine fun _=>⟨i+1,rfl,by omega,.up _ _ 1 (kA (q:=4) (by omega) rfl) (.up _ _ 0 (kA (q:=6) (by omega) rfl) ?_)⟩;rw[<-Dj (n:=n) hi];exact h.Vq hi hk
  case inr.inr.inr.inl=>
   refine fun _=>⟨0,rfl,by omega,.up _ _ 0 (kA (q:=4) (by omega) rfl) (.up _ _ 0 (kA (q:=6) (by omega) rfl) ?_)⟩;rw[<-Dj (n:=n) hi];exact h.Ib (by omega) (by omega)
  all_goals(intro c;simp[Bj] at c)
 ·have kB:∀{q b z:Nat},q<5->(Bh kept j q).cs[b]?=some z->rZ d.nd d.nn (7+7*kept+5*j+q) b z:=fun{q b z} q1 q2=>h.yY (by unfold iH;omega) (by rw[z68 hj q1];exact q2);rcases J7 hr with rfl|rfl|rfl|rfl|rfl
  case inr.inl=>
   refine fun _=>⟨0,rfl,by omega,.up _ _ 0 (kB (q:=2) (by omega) rfl) (.up _ _ 0 (kB (q:=4) (by omega) rfl) ?_)⟩;have e:jq n kept (1+kept+(kept+j))=7+7*kept+5*j+4:=by
    rw[Gj (by omega) (by omega)];omega
   rw[<-e];exact h.Ib (by omega) (by omega)
  all_goals(intro c;simp[Bh] at c)
 ·have kC:∀{q b z:Nat},q<13->(Bg n kept q).cs[b]?=some z->rZ d.nd d.nn (iH n kept+q) b z:=fun{q b z} q1 q2=>h.yY (by omega) (by rw[uP];exact q2);rcases y9 ht with rfl|rfl|rfl|rfl|rfl|rfl|rfl|rfl|rfl|rfl|rfl|rfl|rfl
  case inr.inr.inr.inr.inr.inl=>
   refine fun _=>⟨0,rfl,by omega,.up _ _ 0 (kC (q:=11) (by omega) rfl) ?_⟩;rw[<-Ej hk];exact h.Ib (by omega) (by omega)
  case inr.inr.inr.inr.inr.inr.inl=>
   have hE:=h.C (t:=11) (by omega);exact fun _=>⟨kept+2,rfl,by omega,.up _ _ 1 (kC (q:=8) (by omega) rfl) (.up _ _ 0 (kC (q:=9) (by omega) rfl) (.up _ _ 0 (kC (q:=10) (by omega) rfl) (.here _ _ 1 (kC (q:=11) (by omega) rfl) (.inr ⟨.inr (.inl hE.k),by rw[hE.kn];rfl,Iw hE (j:=1) rfl⟩))))⟩
  all_goals(intro c;simp[Bg] at c)
theorem WF.sh(h:WF d n kept)(hk:kept<=n)(hn:n<=30):∀a,a<iH n kept+13->qm d.nd a=true:=by
 have ex:∀{z:Nat} {T:sZ},l9 (d.nd z) T->mM T.k=true->mM (d.nd z).k=true:=fun hz e=>by rw[hz.k];exact e
 intro a ha;rcases Ux ha with hr|⟨i,r,hi,hr,rfl⟩|⟨j,r,hj,hr,rfl⟩|⟨t,ht,rfl⟩
 ·rcases lt7 hr with rfl|rfl|rfl|rfl|rfl|rfl|rfl
  ·exact yq6 (h.H (a:=0) (by omega)) (by decide)
  ·exact yq6 (h.H (a:=1) (by omega)) (by decide)
  ·exact QT (h.H (a:=2) (by omega)) rfl (by simp) (IX (P:=fun y=>y<2/\mM (d.nd y).k=true) ⟨by omega,ex (h.H (a:=0) (by omega)) rfl⟩ ⟨by omega,ex (h.H (a:=1) (by omega)) rfl⟩)
  ·exact zs0 (h.H (a:=3) (by omega)) (by decide) (by decide)
  ·exact QT (h.H (a:=4) (by omega)) rfl (by simp) (fun i z e=>by simp at e)
  ·refine z64 (h.H (a:=5) (by omega)) (by simp) (by simp) (fun i z e=>?_);rcases i with _|_|_|i
   ·simp at e;subst e;exact⟨by omega,ex (h.H (a:=3) (by omega)) rfl⟩
   ·simp at e;subst e;exact⟨by omega,ex (h.H (a:=4) (by omega)) rfl⟩
   ·simp at e;subst e;exact⟨by omega,ex (h.H (a:=2) (by omega)) rfl⟩
   ·simp at e
  ·exact yq5 (h.H (a:=6) (by omega)) (by omega) (ex (h.H (a:=5) (by omega)) rfl)
 ·rcases lt7 hr with rfl|rfl|rfl|rfl|rfl|rfl|rfl
  ·exact QT (h.A hi (r:=0) (by omega)) rfl (by simp) (fun i z e=>by simp at e)
  ·exact yq5 (h.A hi (r:=1) (by omega)) (by omega) (ex (h.A hi (r:=0) (by omega)) rfl)
  ·exact ML (h.A hi (r:=2) (by omega))
  ·exact ML (h.A hi (r:=3) (by omega))
  ·exact yq8 (h.A hi (r:=4) (by omega)) (IX (P:=fun y=>y<7+7*i+4/\mM (d.nd y).k=true) ⟨by omega,ex (h.A hi (r:=3) (by omega)) rfl⟩ ⟨by omega,ex (h.A hi (r:=2) (by omega)) rfl⟩)
  ·exact yq7 (h.A hi (r:=5) (by omega))
  ·exact yq4 (h.A hi (r:=6) (by omega)) (by omega) (by omega) (h.A hi (r:=4) (by omega)).k (ex (h.A hi (r:=5) (by omega)) rfl)
 ·rcases J7 hr with rfl|rfl|rfl|rfl|rfl
  ·exact QT (h.B hj (r:=0) (by omega)) rfl (by simp) (fun i z e=>by simp at e)
  ·exact ML (h.B hj (r:=1) (by omega))
  ·exact yq8 (h.B hj (r:=2) (by omega)) (IX (P:=fun y=>y<7+7*kept+5*j+2/\mM (d.nd y).k=true) ⟨by omega,ex (h.B hj (r:=1) (by omega)) rfl⟩ ⟨by omega,ex (h.B hj (r:=0) (by omega)) rfl⟩)
  ·exact yq7 (h.B hj (r:=3) (by omega))
  ·exact yq4 (h.B hj (r:=4) (by omega)) (by omega) (by omega) (h.B hj (r:=2) (by omega)).k (ex (h.B hj (r:=3) (by omega)) rfl)
 ·rcases y9 ht with rfl|rfl|rfl|rfl|rfl|rfl|rfl|rfl|rfl|rfl|rfl|rfl|rfl
  ·exact zs0 (h.C (t:=0) (by omega)) (by decide) (by decide)
  ·exact z64 (h.C (t:=1) (by omega)) (by simp) (by simp) (z93 (P:=fun y=>y<iH n kept+1/\mM (d.nd y).k=true) ⟨by omega,ex (h.C (t:=0) (by omega)) rfl⟩)
  ·exact zs0 (h.C (t:=2) (by omega)) (by decide) (by decide)
  ·exact z64 (h.C (t:=3) (by omega)) (by simp) (by simp) (IX (P:=fun y=>y<iH n kept+3/\mM (d.nd y).k=true) ⟨by omega,ex (h.C (t:=2) (by omega)) rfl⟩ ⟨by omega,ex (h.C (t:=1) (by omega)) rfl⟩)
  ·exact j31 (h.C (t:=4) (by omega)) (by omega) (h.C (t:=3) (by omega)).k
  ·exact ML (h.C (t:=5) (by omega))
  ·exact ML (h.C (t:=6) (by omega))
  ·exact zs0 (h.C (t:=7) (by omega)) (by decide) (by decide)
  ·exact z64 (h.C (t:=8) (by omega)) (by simp) (by simp) (IX (P:=fun y=>y<iH n kept+8/\mM (d.nd y).k=true) ⟨by omega,ex (h.C (t:=7) (by omega)) rfl⟩ ⟨by omega,ex (h.C (t:=6) (by omega)) rfl⟩)
  ·exact j31 (h.C (t:=9) (by omega)) (by omega) (h.C (t:=8) (by omega)).k
  ·exact ZE (h.C (t:=10) (by omega)) (by simp) (z93 (P:=fun y=>y<iH n kept+10/\oW (d.nd y).k=true) ⟨by omega,by rw[(h.C (t:=9) (by omega)).k];rfl⟩)
  ·exact yv1 (h.C (t:=11) (by omega)) (by omega) (by omega) (ex (h.C (t:=5) (by omega)) rfl) (h.C (t:=10) (by omega)).k
  ·refine ZE (h.C (t:=12) (by omega)) (by simp;omega) (fun b z e=>?_);have hb:b<3+kept+n:=by
    have:=(aP.1 e).1;simpa using this
   rw[IY hb] at e
   cases e;refine⟨y39 hk hb,?_⟩;rcases Le hb with rfl|⟨i,hi,rfl⟩|⟨i,hi,rfl⟩|⟨i,h1,h2,rfl⟩|rfl|rfl
   ·rw[z25,(h.H (a:=6) (by omega)).k];rfl
   ·rw[Dh hi,(h.A hi (r:=1) (by omega)).k];rfl
   ·rw[Dj hi,(h.A hi (r:=6) (by omega)).k];rfl
   ·rw[Gj h1 h2,(h.B (j:=i-kept) (by omega) (r:=4) (by omega)).k];rfl
   ·rw[Gi hk,(h.C (t:=4) (by omega)).k];rfl
   ·rw[Ej hk,(h.C (t:=11) (by omega)).k];rfl
theorem yx{x j v:Nat}(h:[x][j]?=some v):v=x:=by
 rcases j with _|j<;>simp at h
 exact h.symm
theorem JA{x y j v:Nat}(h:[x,y][j]?=some v):v=x\/v=y:=by
 rcases j with _|_|j<;>simp at h
 ·exact .inl h.symm
 ·exact .inr h.symm
theorem WF.fresh(h:WF d n kept){a:Nat}(ha:a<iH n kept+13)(hD:rY (jJ n kept a).k){j:Nat}(hj:j<(d.nd a).rn):lI ((d.nd a).r j) (kept+3)/\¬pR d a j ((d.nd a).r j):=by
 have hz:=h.nd a (by rw[h.nn];exact ha);rw[hz.rn] at hj;obtain⟨v,hv⟩:∃v,(jJ n kept a).rs[j]?=some v:=⟨_,bg hj⟩;rw[hz.r j v hv];have gK:v<kept+3:=by
  rcases z67 n kept a ha hD with⟨_,e⟩|⟨i,hi,_,e⟩|⟨_,e⟩<;>rw[e] at hv
  ·rcases j with _|j<;>simp at hv;omega
  ·rcases j with _|j<;>simp at hv;omega
  ·rcases j with _|_|j<;>simp at hv<;>omega
 refine⟨⟨by omega,by omega⟩,?_⟩;rintro(c|⟨m,hm,hDm,b,hb,c⟩|⟨b,hb,c⟩)
 ·rw[h.p] at c;omega
 ·have hm':m<iH n kept+13:=by omega
  have hzm:=h.nd m (by rw[h.nn];exact hm');rw[hzm.k] at hDm;rw[hzm.rn] at hb;obtain⟨v',hv'⟩:∃v',(jJ n kept m).rs[b]?=some v':=⟨_,bg hb⟩;rw[hzm.r b v' hv'] at c;have e0:v'=v:=by omega
  subst e0;rcases z67 n kept a ha hD with⟨ea,e⟩|⟨i,hi,ea,e⟩|⟨ea,e⟩<;>rcases z67 n kept m hm' hDm with⟨em,e'⟩|⟨i',hi',em,e'⟩|⟨em,e'⟩<;>rw[e] at hv<;>rw[e'] at hv'<;>subst ea<;>subst em
  ·omega
  ·omega
  ·omega
  ·have:=yx hv;have:=yx hv';omega
  ·have:=yx hv;have:=yx hv';omega
  ·have:=yx hv;have:=JA hv';omega
  ·have:=JA hv;have:=yx hv';omega
  ·have:=JA hv;have:=yx hv';omega
  ·omega
 ·obtain⟨v',hv'⟩:∃v',(jJ n kept a).rs[b]?=some v':=⟨_,bg (by omega)⟩;rw[hz.r b v' hv'] at c;have e0:v'=v:=by omega
  subst e0;rcases z67 n kept a ha hD with⟨ea,e⟩|⟨i,hi,ea,e⟩|⟨ea,e⟩<;>rw[e] at hv hv'
  ·rcases j with _|j<;>simp at hv;omega
  ·rcases j with _|j<;>simp at hv;omega
  ·rcases j with _|_|j<;>rcases b with _|_|b<;>simp at hv hv'<;>omega
end
theorem jb2{u:UD}{n kept:Nat}(hu:u.n=1)(hW:WF (u.fn 0) n kept)(hk:kept<=n)(hn:n<=30):∀y,¬oq u y:=by
 have hf:∀f,f<u.n->f=0:=fun f h=>by omega
 have nn0:=hW.nn;have he:iH n kept<=217:=by unfold iH;omega
 rintro y (h|h|h|h|h|h|h|h|h)
 ·refine h.2.2.2 ⟨by omega,by omega,?_⟩;rw[hu];show 0+(u.fn 0).nn<=3000;omega
 ·obtain⟨_,h1,_,hb⟩:=h;refine hb ?_;rw[hf _ h1];exact⟨⟨by omega,by rw[hW.vn];omega,by rw[hW.un];omega,by rw[hW.p];decide,by rw[hW.p];omega⟩,⟨hW.l1,hW.l2,hW.nm,fun _=>⟨hW.p,hW.un⟩⟩,fun i hi=>hW.v i (by rw[hW.vn] at hi;exact hi)⟩
 ·obtain⟨_,h1,h2,hb⟩:=h;rw[hf _ h1] at h2 hb;replace h2:y.n<(u.fn 0).nn:=h2;rw[hW.sh hk hn _ (by omega)] at hb
  cases hb
 ·obtain⟨_,h1,h2,hb⟩:=h;rw[hf _ h1] at h2 hb;rcases hb with⟨b1,b2⟩|⟨b1,b2⟩
  ·have:=hW.par hk (x:=y.n) (by omega);omega
  ·refine b2 ?_;rw[b1,nn0];exact(hW.C (t:=12) (by omega)).k
 ·obtain⟨_,h1,h2,hb⟩:=h;rw[hf _ h1] at hb;have h3:=hW.dep hk ((u.fn 0).nn-1) y.n;have h4:=zx0 (n:=n) (kept:=kept) y.n;omega
 ·obtain⟨_,h1,h2,hb⟩:=h;refine hb ?_;rw[hf _ h1] at h2 ⊢;have ha:y.n<iH n kept+13:=by omega
  have hz:=hW.nd y.n h2;have hkk:=z66 n kept y.n ha;refine⟨fun c=>?_,fun c=>?_,fun c=>?_,fun c j hj=>?_⟩
  ·rw[hz.k] at c;exact absurd c hkk.1
  ·rw[hz.k] at c;exact absurd c hkk.2.1
  ·rw[hz.k] at c;obtain⟨v,q1,q2,q3⟩:=hW.vars hk y.n ha c;rw[hz.r 0 v q1,hW.vn];exact⟨⟨by omega,by omega⟩,.inr q3⟩
  ·rw[hz.k] at c;rw[hW.vn];exact hW.fresh ha c hj
 ·obtain⟨_,h1,h2,hb,_⟩:=h;rw[hf _ h1] at h2 hb;have hz:=hW.nd y.n h2;have hkk:=z66 n kept y.n (by omega);rw[hz.k] at hb;rcases hb with hb|hb
  ·exact hkk.2.2.2.1 hb
  ·exact hkk.2.2.2.2 hb
 ·obtain⟨_,h1,h2,hb⟩:=h;rw[hf _ h1] at h2 hb;have hz:=hW.nd y.n h2;have hkk:=z66 n kept y.n (by omega);rcases hb with(⟨b1,_⟩|⟨b1,_⟩)|⟨b1,_⟩<;>rw[hz.k] at b1
  ·exact hkk.2.2.1 b1
  ·exact hkk.2.1 b1
  ·exact hkk.2.1 b1
 ·obtain⟨_,_,h1,h2,_⟩:=h;omega
section
open Go.RowKit
def Oe(r:lU):List Value:=if r.k=6 then[.string r.s] else[]
theorem Zr(l:List lU)(d:lU):∀k,k<=l.length->oP (fun i=>l.getD i d) k=(l.take k).flatMap Oe
 |0,_=>by simp[oP]
 |k+1,h=>by
  have ih:=Zr l d k (by omega);have hk:k<l.length:=by omega
  show oP (fun i=>l.getD i d) k++(if(l.getD k d).k=6 then[.string (l.getD k d).s] else[])=_;rw[ih,List.take_add_one,List.flatMap_append];congr 1;have e:l[k]?=some (l.getD k d):=by simp[List.getD,bg hk]
  rw[e];simp[Oe]
theorem yy4(l:List lU)(d:lU):oP (fun i=>l.getD i d) l.length=l.flatMap Oe:=by rw[Zr l d _ (ah _),List.take_length]
theorem y88:∀l:List lU,l.flatMap Oe=(tK l).map .string
 |[]=>rfl
 |x :: l=>by
  have ih:=y88 l;rw[List.flatMap_cons,ih];unfold tK Oe;by_cases c:x.k=6
  ·rw[aO c,List.filter_cons_of_pos (by simp[c])];simp
  ·rw[au c,List.filter_cons_of_neg (by simp[c])];simp
theorem y40{n kept:Nat}{l:List lU}{md:Nat}(h:AQ n kept zA l md):oP (fun i=>l.getD i FZ) l.length=.string (bA (kS ((3+2*kept:Nat):Int))) :: (List.range kept).map fun i:Nat=>.string (bA (kS (i:Int))):=by
 rw[yy4,y88,h.num.2];simp
theorem jb4{d:FD}{n kept:Nat}(h:WF d n kept)(hk:kept<=n)(hn:n<=30):d.sm:=by
 have he:iH n kept<=217:=by unfold iH;omega
 refine⟨by have:=h.nm;omega,by rw[h.vn];omega,fun i hi=>by have:=(h.v i (by rw[h.vn] at hi;exact hi)).2;omega,by rw[h.un];omega,by rw[h.nn];omega,fun i hi=>?_⟩;have hz:=h.nd i hi;have hb:∀a,a<iH n kept+13->(jJ n kept a).s.size<=4/\(jJ n kept a).rs.length<=2/\(jJ n kept a).cs.length<=100:=by
  refine MK (P:=fun _ T=>T.s.size<=4/\T.rs.length<=2/\T.cs.length<=100) (fun r hr=>?_) (fun i r hi hr=>?_) (fun j r hj hr=>?_) (fun t ht=>?_)
  ·rcases lt7 hr with rfl|rfl|rfl|rfl|rfl|rfl|rfl<;>decide
  ·rcases lt7 hr with rfl|rfl|rfl|rfl|rfl|rfl|rfl<;>exact⟨by show(0:Nat)<=4;decide,by simp[Bj],by simp[Bj]⟩
  ·rcases J7 hr with rfl|rfl|rfl|rfl|rfl<;>exact⟨by show(0:Nat)<=4;decide,by simp[Bh],by simp[Bh]⟩
  ·rcases y9 ht with rfl|rfl|rfl|rfl|rfl|rfl|rfl|rfl|rfl|rfl|rfl|rfl|rfl<;>exact⟨by show(0:Nat)<=4;decide,by simp[Bg],by simp[Bg]<;>omega⟩
 obtain⟨b1,b2,b3⟩:=hb i (by rw[<-h.nn];exact hi);exact⟨by rw[hz.s];omega,by rw[hz.rn];omega,by rw[hz.kn];omega⟩
theorem y76{n kept ub ce:Nat}{fn:Nat->FD}{fas:Nat->FA}{w:World}(hk:kept<=n)(hn:n<=30)(hf:jh 0 w 1 fn (some ⟨ub,0,none⟩) fas)(hc:qj (fn 0) (fas 0))(hW:WF (fn 0) n kept)(hT:lN w)(h1:3+2*n<=ce)(h2:ce<=20000):ku ⟨1,fn⟩ ub 0 fas n kept ce w:=by
 refine⟨⟨by show 1<=1048576;omega,fun i hi=>?_⟩,rfl,jb2 rfl hW hk hn,⟨hf,hc,hW,hk,hn⟩,hT,h1,h2⟩;obtain rfl:i=0:=by
  replace hi:i<1:=hi;omega
 exact jb4 hW hk hn
theorem yk1{u:World}{N:Nat}{a:Option Addr}{c m:Nat}{xs:List Value}(h:u.ownsRow N 9 1 (.slice a m c) m xs)(hm:0<m):∃g,a=some ⟨g,0,none⟩/\g<u.heap.size/\∀(i:Nat) (v:Value),xs[i]?=some v->u.cell? ⟨g,i,none⟩=some v:=by
 rcases h.2 with⟨_,e⟩|⟨g,c',cur,e,h1,h2,h3,_⟩
 ·omega
 ·have e1:a=some ⟨g,0,none⟩:=by injection e
  refine⟨g,e1,(aA.1 h2).1,fun i v hv=>?_⟩;have hc:=h.cells (g:=g) (by rw[e1];rfl) i v hv
  cases i<;>simpa[Addr.add] using hc
end
section
open Go.RowKit
attribute [local go_sem] iD
attribute [local go_sem ↓] Go.wp_at_zero Go.wp_at_succ
theorem zh8(a:Option Addr)(len cap:Nat)(zs:List Int)(w:World)(hR:Rn w a len cap zs)(hT:lN w):Calls Tryz.prog 3 #[.slice a len cap] w fun e w'=>e=.returned (.bool true)/\gZ w w':=by
 have HR:Hid (Rn w a len cap zs):=hR;have HT:Hid (lN w):=hT;by_cases hl:1048576<len
 ·go_in;go_wp2_with fail;go_ret;exact⟨rfl,ay _ _⟩
 ·go_in;go_wp2_with fail;refine(qu0 a len cap zs 0 _ HR.out (by omega) (by omega) (by omega)).mono ?_;rintro e w1 ⟨⟨v0,h01,h02,rfl⟩,rfl⟩
  go_upto_if 15 with fail
  obtain⟨n,hn⟩:∃n:Nat,v0%31=(n:Int):=⟨(v0%31).toNat,by omega⟩;rw[hn];have n1:n<=30:=by omega
  have hd1:decide (1048576<(len:Int))=false:=by simp;omega
  rw[hd1]
  go_cut [4] (fun s4 wc=>∃kept:Nat,kept<=n/\s4=.int .i64 (kept:Int)/\wc=w1)
  case first=>
   by_cases hn0:(0:Int)<(n:Int)
   ·have hm0:¬((n:Int)+1=0):=by omega
    go_wp2_with fail;refine(qu0 a len cap zs 1 _ HR.out (by omega) (by omega) (by omega)).mono ?_;rintro e w1 ⟨⟨v1,h11,h12,rfl⟩,rfl⟩;go_wp2_with fail
    go_meet
    have h1:0<=v1%((n:Int)+1):=Int.emod_nonneg _ (by omega);have h2:v1%((n:Int)+1)<(n:Int)+1:=Int.emod_lt_of_pos _ (by omega);exact⟨(v1%((n:Int)+1)).toNat,by omega,by rw[Int.toNat_of_nonneg h1],rfl⟩
   ·go_wp2_with fail
    go_meet
    exact⟨0,aF _,rfl,rfl⟩
  case rest=>
   obtain⟨kept,hk,rfl,rfl⟩:=hcut;go_wp2_with fail;refine(qz9 n kept _ hk n1).mono ?_;rintro e w2 ⟨ub,uc,fn,fas,rfl,hfn,gy,hW,eG⟩;obtain⟨ce,hce⟩:∃ce:Nat,3+2*n=ce:=⟨_,rfl⟩;have H2:Hid (ku ⟨1,fn⟩ ub 0 fas n kept ce w2/\gZ wc w2):=⟨y76 hk n1 hfn gy hW (lN.keep HT.out eG (ah _)) (by omega) (by omega),eG⟩;have a0b:3+2*(n:Int)=(ce:Int):=by omega
   have YT:Hid (3+2*n=ce):=hce;go_wp2_with fail;refine(y75 ⟨1,fn⟩ ub 0 uc fas n kept ce _ H2.1).mono ?_;rintro e w3 ⟨l,ti,md,ra,rc,hq,rfl,hr,eH⟩;have hp:=y40 hq;have hmd:=hq.num.1;have hll:l.length<=2000:=hq.2.1;obtain⟨ln,hln⟩:∃ln,l.length=ln:=⟨_,rfl⟩;have H3:Hid (lQ 0 w3 ra ln (fun i=>l.getD i FZ)/\gZ wc w3):=⟨by rw[<-hln];exact hr,iq H2.2 eH⟩;rw[hln] at hp hll;rw[hln];obtain⟨SX,XA⟩:∃z:Int,(md:Int)=z:=⟨_,rfl⟩;have HMD:Hid (SX=(ce:Int)):=by have:=YT.out;show SX=(ce:Int);omega
   rw[XA];go_wp2_with fail;refine(z69 0 ra ln rc none 0 0 ⟨#[]⟩ ⟨#[]⟩ ti SX (fun i=>l.getD i FZ) _ hll (iF.alloc H3.1 _)).mono ?_;rintro e w4 ⟨⟨oa,oc,rfl,ho⟩,eU⟩;have hO4:Has w4 w3.heap.size #[.int .i64 0,.slice ra ln rc,.slice none 0 0,.string ⟨#[]⟩,.string ⟨#[]⟩,.int .i64 ti,.int .i64 SX]:=(Has.new _ _ _).call eU;have H4:Hid (gZ wc w4):=iq (H3.2.alloc H3.2.size _) eU;have hpl:(oP (fun i=>l.getD i FZ) ln).length=kept+1:=by rw[hp];simp
   rw[hpl] at ho;rw[hpl,HMD.out];rw[HMD.out] at hO4;obtain⟨g,rfl,hg,hcells⟩:=yk1 ho (by omega);rw[hp] at hcells;obtain⟨t0,ht0⟩:∃t0,bA (kS (3+2*(kept:Int)))=t0:=⟨_,rfl⟩;obtain⟨B5,uy⟩:∃B5,w3.heap.size=B5:=⟨_,rfl⟩;rw[uy] at hO4;rw[uy];have HC:Hid (w4.cell? ⟨g,0,none⟩=some (.string t0)/\(∀i:Nat,i<kept->w4.cell? ⟨g,i+1,none⟩=some (.string (bA (kS (i:Int)))))/\g<w4.heap.size/\B5<w4.heap.size/\w4.cell? ⟨B5,0,none⟩=some (.int .i64 0)/\w4.cell? ⟨B5,6,none⟩=some (.int .i64 (ce:Int))):=by
    refine⟨?_,fun i hi=>?_,hg,hO4.1,hO4.cell 0 rfl,hO4.cell 6 rfl⟩
    ·rw[hcells 0 _ rfl,<-ht0];congr 4
    ·exact hcells (i+1) _ (by simp[hi])
   have Yz:Hid (∀u,Calls Tryz.prog 8 #[.int .i64 (3+2*(kept:Int))] u fun e u'=>e=.returned (.string t0)/\gZ u u'):=fun u=>by
    rw[<-ht0];exact qt7 _ u (by omega) (by omega)
   have qE:Hid (∀u,gZ w4 u->u.cell? ⟨B5,0,none⟩=some (.int .i64 0)/\u.cell? ⟨B5,6,none⟩=some (.int .i64 (ce:Int))/\u.cell? ⟨g,0,none⟩=some (.string t0)):=fun u hu=>⟨(hu.cell (p:=⟨B5,0,none⟩) HC.2.2.2.1).trans HC.2.2.2.2.1,(hu.cell (p:=⟨B5,6,none⟩) HC.2.2.2.1).trans HC.2.2.2.2.2,(hu.cell (p:=⟨g,0,none⟩) HC.2.2.1).trans HC.1⟩;have HB:Hid (gZ w4 w4.drew):=(ay _ _).drew;have fQ:IntKind.i64.wrap ((kept:Int)+1)=(kept:Int)+1:=Dl (by omega) (by omega);have fU:IntKind.i64.wrap (2*(kept:Int))=2*(kept:Int):=Dl (by omega) (by omega);have fV:IntKind.i64.wrap (3+2*(kept:Int))=3+2*(kept:Int):=Dl (by omega) (by omega);have hw4:IntKind.i64.wrap (2*(n:Int))=2*(n:Int):=Dl (by omega) (by omega);have hw5:IntKind.i64.wrap (ce:Int)=(ce:Int):=Dl (by have:=YT.out;omega) (by have:=YT.out;omega)
   go_upto_region 9 with fail
   go_region_held3 (fun u=>u.cell? ⟨B5,0,none⟩=some (.int .i64 0)/\u.cell? ⟨B5,6,none⟩=some (.int .i64 (ce:Int))/\u.cell? ⟨g,0,none⟩=some (.string t0)) (first|exact qE.out _ fB.out|exact qE.out _ HB.out)
    (first|(go_at_call 8;refine(Yz _).mono ?_;rintro e w5 ⟨rfl,eX⟩;have fB:Hid (gZ w4 w5):=iq HB.out eX))
   have H5:Hid (gZ wc w5/\(∀i:Nat,i<kept->w5.cell? ⟨g,i+1,none⟩=some (.string (bA (kS (i:Int)))))/\g<w5.heap.size):=⟨iq H4.out fB.out,fun i hi=>(fB.cell (p:=⟨g,i+1,none⟩) HC.2.2.1).trans (HC.2.1 i hi),aH HC.2.2.1 fB.size⟩;go_wp2_with fail
   go_loopw [7] (fun v7 wr=>∃i:Nat,i<=kept/\v7=.int .i64 (i:Int)/\Hid (gZ w5 wr)) (fun v7 _=>kept-(intOf v7).toNat)
   case atStart=>exact⟨0,aF _,rfl,ay _ _⟩
   case round=>
    obtain⟨i,hi,rfl,HL⟩:=hrel;by_cases hik:i<kept
    ·obtain⟨ts,hts⟩:∃ts,bA (kS (i:Int))=ts:=⟨_,rfl⟩;have qE:Hid (∀u,gZ wr u->u.cell? ⟨g,i+1,none⟩=some (.string ts)):=fun u hu=>by
      rw[<-hts,<-H5.2.1 i hik];exact(iq HL hu).cell (p:=⟨g,i+1,none⟩) H5.2.2
     have Yz:Hid (∀u,Calls Tryz.prog 8 #[.int .i64 (i:Int)] u fun e u'=>e=.returned (.string ts)/\gZ u u'):=fun u=>by
      rw[<-hts];exact qt7 _ u (by omega) (by omega)
     have HB:Hid (gZ wr wr.drew):=(ay _ _).drew;have fQ:IntKind.i64.wrap ((i:Int)+1)=(i:Int)+1:=Dl (by omega) (by omega);have hj0:(0:Int)<=(i:Int)+1:=by omega
     have hj1:(i:Int)+1<(kept:Int)+1:=by omega
     go_upto_region 14 with fail
     go_region_held3 (fun u=>u.cell? ⟨g,i+1,none⟩=some (.string ts)) (first|exact qE.out _ fB.out|exact qE.out _ HB.out)
      (first|(go_at_call 8;refine(Yz _).mono ?_;rintro e w6 ⟨rfl,eY⟩;have fB:Hid (gZ wr w6):=iq HB.out eY))
     have H6:Hid (gZ w5 w6):=iq HL.out fB.out;go_wp2_with fail;go_roundw
     case rel=>exact⟨i+1,by omega,by go_num,H6⟩
     case measure=>simp[intOf];omega
    ·obtain rfl:i=kept:=by omega
     go_wp2_with fail;go_ret;exact⟨rfl,iq H5.1 HL⟩
end
end Go.Proofs.YthnkncpegihbhaaGreatDoor
