import Derived.Test.YtihnikeikhjndaaGreatDoorImK
import Derived.Test.YtihnikeikhjndaaGreatDoorDepB
import Derived.Test.YtihnikeikhjndaaGreatDoorSkI
set_option maxRecDepth 100000
set_option maxHeartbeats 16000000
namespace Go.Proofs.YtihnikeikhjndaaGreatDoor
section
open Go.RowKit
theorem ZU:OW:=fun L u a cap fas w hs h5 _ hc hT=>qm7 L u a cap fas w hs h5 hc hT
theorem qt0(L:Nat)(u:UD)(a:Option Addr)(cap:Nat)(fas:Nat->FA)(w:World)(hs:u.sm)(hc:∀i,i<u.n->jc (u.fn i) (fas i))(hT:aZ L w u.n u.fn a fas):Calls Tryz.prog 17 #[pq u a cap] w fun e w'=>aQ (jd u) w e w':=z97 yf6 ZU L u a cap fas w hs hc hT
end
structure xM(q:ND)(k n:Int)(rs cs:List Nat):Prop where
 k:q.k=k
 o:q.o=0
 n:q.n=n
 f:q.f=0
 s:q.s=⟨#[]⟩
 rn:q.rn=rs.length
 r:∀j z:Nat,rs[j]?=some z->q.r j=(z:Int)
 kn:q.kn=cs.length
 c:∀j z:Nat,cs[j]?=some z->q.c j=(z:Int)
structure mg(q:ND)(k n:Int)(rs cs:List Nat):Prop where
 f:xM q k n rs cs
 l:q.l=0
structure oN(q:ND)(k:Int)(rs cs:List Nat):Prop where
 f:xM q k 0 rs cs
 l1:1<=q.l
 l2:q.l<=100000
section
variable {nd:Nat->ND}{m:Nat}{k n:Int}{rs cs:List Nat}
theorem xM.kid(h:xM (nd m) k n rs cs){i z:Nat}(hz:cs[i]?=some z)(hlt:z<m):dG nd m i=(nd z).k:=by
 have hi:=(List.getElem?_eq_some_iff.1 hz).1;unfold dG;rw[if_pos (by rw[h.kn];exact hi),h.c i z hz,if_pos (by omega)];simp
def Ahead(m:Nat)(cs:List Nat):Prop:=∀i z:Nat,cs[i]?=some z->z<m
theorem TU(h:xM (nd m) k n rs cs)(ha:Ahead m cs)(hl:cs.length<=200):(!decide ((200:Int)<(nd m).kn) && allB (fun i=>!(decide ((nd m).c i<0) || decide ((m:Int)<=(nd m).c i))) 0 (nd m).kn)=true:=by
 rw[h.kn,Bool.and_eq_true];refine⟨by simp;omega,au.2 fun i _ hi=>?_⟩;have hz:cs[i]?=some cs[i]:=List.getElem?_eq_getElem hi;have:=ha i _ hz;rw[h.c i _ hz];simp;omega
theorem qa2(h:xM (nd m) k n rs cs)(a b c d:Bool)(hn:b=true\/n=0):fG (nd m) a b c d (rs.length:Int)=true:=by
 unfold fG AB;rw[h.o,h.n,h.f,h.s,h.rn];have h1:fz 0=true:=by kernel_rfl
 have h2:se ⟨#[]⟩=true:=by kernel_rfl
 rw[h1,h2];rcases hn with rfl|rfl<;>simp
theorem vK(h:mg (nd m) k n rs cs)(ha:Ahead m cs)(hl:cs.length<=200)(hk:20<=k)(he:rQ nd m=true):jC nd m=true:=by
 unfold jC;rw[TU h.f ha hl,h.f.k,show iJ k=false by unfold iJ;simp;omega,h.l,he];simp
theorem vJ(h:oN (nd m) k rs cs)(ha:Ahead m cs)(hl:cs.length<=200)(hk:1<=k/\k<=14)(he:kK nd m=true):jC nd m=true:=by
 unfold jC;rw[TU h.f ha hl,h.f.k,show iJ k=true by unfold iJ;simp;omega,he];have h1:=h.l1;have h2:=h.l2;simp;omega
theorem Vp(h:xM (nd m) k n rs cs)(hs:∀i z:Nat,cs[i]?=some z->z<m/\iU (nd z).k=true):fJ nd m 0 (nd m).kn=true:=by
 unfold fJ;rw[h.kn];refine au.2 fun i _ hi=>?_;have hz:cs[i]?=some cs[i]:=List.getElem?_eq_getElem hi;show iU (dG nd m i)=true;rw[h.kid hz (hs i _ hz).1];exact(hs i _ hz).2
theorem Vm(h:mg (nd m) 23 n [] []):jC nd m=true:=by
 refine vK h (fun i z e=>by simp at e) (by simp) (by omega) ?_;unfold rQ;rw[h.f.k,h.f.kn,show fG (nd m) false true false false 0=true from qa2 h.f false true false false (.inl rfl)];rfl
theorem NJ(h:mg (nd m) 28 0 [] []):jC nd m=true:=by
 refine vK h (fun i z e=>by simp at e) (by simp) (by omega) ?_;unfold rQ;rw[h.f.k,h.f.kn,h.f.n,show fG (nd m) false true false false 0=true from qa2 h.f false true false false (.inl rfl)];rfl
theorem Vo{v:Nat}(h:mg (nd m) 26 0 [v] []):jC nd m=true:=by
 refine vK h (fun i z e=>by simp at e) (by simp) (by omega) ?_;unfold rQ;rw[h.f.k,h.f.kn,show fG (nd m) false false false false 1=true from qa2 h.f false false false false (.inr rfl)];rfl
theorem V3{v:Nat}(h:mg (nd m) 36 0 [v] []):jC nd m=true:=by
 refine vK h (fun i z e=>by simp at e) (by simp) (by omega) ?_;unfold rQ;rw[h.f.k,h.f.kn,show fG (nd m) false false false false 1=true from qa2 h.f false false false false (.inr rfl)];rfl
theorem Gu(h:mg (nd m) 34 0 [] cs)(h0:0<cs.length)(hl:cs.length<=200)(hs:∀i z:Nat,cs[i]?=some z->z<m/\iU (nd z).k=true):jC nd m=true:=by
 refine vK h (fun i z e=>(hs i z e).1) hl (by omega) ?_;have hx:=Vp h.f hs;unfold rQ;rw[h.f.k,hx,show fG (nd m) false false false false 0=true from qa2 h.f false false false false (.inr rfl),h.f.kn];simp;omega
theorem GZ(h:oN (nd m) 1 [] cs)(hl:cs.length<=200)(hs:∀i z:Nat,cs[i]?=some z->z<m/\iJ (nd z).k=true):jC nd m=true:=by
 refine vJ h (fun i z e=>(hs i z e).1) hl (by omega) ?_;unfold kK;rw[if_pos h.f.k,h.f.kn,show fG (nd m) false false false false 0=true from qa2 h.f false false false false (.inr rfl),au.2 fun i _ hi=>?_]
 ·rfl
 ·have hz:cs[i]?=some cs[i]:=List.getElem?_eq_getElem hi;show iJ (dG nd m i)=true;rw[h.f.kid hz (hs i _ hz).1];exact(hs i _ hz).2
theorem Oj{z:Nat}(h:oN (nd m) 4 [] [z])(hz:z<m)(hk:(nd z).k=34):jC nd m=true:=by
 refine vJ h (fun i y e=>?_) (by simp) (by omega) ?_
 ·rcases i with _|i
  ·simp at e;omega
  ·simp at e
 ·unfold kK;rw[h.f.k,h.f.kn,h.f.kid (i:=0) rfl hz,hk,show fG (nd m) false false false false 0=true from qa2 h.f false false false false (.inr rfl)];rfl
theorem yj2{a b x y:Nat}(h:oN (nd m) 12 [a,b] [x,y])(hx:x<m)(hy:y<m)(kx:(nd x).k=1)(ky:(nd y).k=1):jC nd m=true:=by
 refine vJ h (fun i z e=>?_) (by simp) (by omega) ?_
 ·rcases i with _|_|i
  ·simp at e;omega
  ·simp at e;omega
  ·simp at e
 ·unfold kK oK;rw[h.f.k,h.f.kn,h.f.kid (i:=0) rfl hx,kx,show fG (nd m) false false false false 2=true from qa2 h.f false false false false (.inr rfl)];have:=h.f.kid (i:=1) rfl hy;rw[ky] at this;simp[this]
end
theorem Ld{nd:Nat->ND}{i x:Nat}{p:Nat->Int}:∀j,(∀b,b<j->((nd i).c b).toNat≠x)->rF nd i p j x=p x
 |0,_=>rfl
 |j+1,h=>by
  unfold rF CP;rw[if_neg (fun e=>h j (by omega) e.symm)];exact Ld j fun b hb=>h b (by omega)
theorem z80{nd:Nat->ND}{i x b0:Nat}{p:Nat->Int}(hp:p x = -2)(h0:((nd i).c b0).toNat=x):∀j,b0<j->(∀b,b<j->b≠b0->((nd i).c b).toNat≠x)->rF nd i p j x=(i:Int)
 |0,h,_=>by omega
 |j+1,h,hu=>by
  unfold rF CP;by_cases e:j=b0
  ·subst e;rw[if_pos h0.symm,h0,Ld j (fun b hb=>hu b (by omega) (by omega)),if_pos hp]
  ·rw[if_neg (fun c=>hu j (by omega) e c.symm)];exact z80 hp h0 j (by omega) fun b hb hne=>hu b (by omega) hne
theorem Wh{nd:Nat->ND}{x:Nat}:∀i,(∀a,a<i->∀b,b<(nd a).kn->((nd a).c b).toNat≠x)->rG nd i x = -2
 |0,_=>rfl
 |i+1,h=>by
  unfold rG;rw[Ld _ (h i (by omega))];exact Wh i fun a ha=>h a (by omega)
theorem Wi{nd:Nat->ND}{N x a0 b0:Nat}(hb:b0<(nd a0).kn)(h0:((nd a0).c b0).toNat=x)(hu:∀a b,a<N->b<(nd a).kn->((nd a).c b).toNat=x->a=a0/\b=b0):∀i,a0<i->i<=N->rG nd i x=(a0:Int)
 |0,h,_=>by omega
 |i+1,h,hi=>by
  unfold rG;by_cases e:i=a0
  ·subst e;exact z80 (Wh i fun a ha b hb' c=>by have:=(hu a b (by omega) hb' c).1;omega) h0 _ hb fun b hb' hne c=>hne (hu _ b (by omega) hb' c).2
  ·rw[Ld _ fun b hb' c=>e (hu i b (by omega) hb' c).1];exact Wi hb h0 hu i (by omega) (by omega)
theorem ym1{nd:Nat->ND}{m:Nat}(hk:(nd m).k=25)(hl:(nd m).l=0)(ho:(nd m).o=0)(hn:(nd m).n=0)(hf:(nd m).f=0)(hs:(nd m).s.size<=4000)(hr:(nd m).rn=0)(hc:(nd m).kn=0):jC nd m=true:=by
 unfold jC;have h1:fz 0=true:=by kernel_rfl
 have e1:rQ nd m=true:=by
  unfold rQ fG AB;rw[hk,hc,ho,hn,hf,hr,h1];simp;omega
 have e2:allB (fun i=>!(decide ((nd m).c i<0) || decide ((m:Int)<=(nd m).c i))) 0 0=true:=y02 (Nat.le_refl _);rw[hk,hl,hc,e1,e2];rfl
theorem y29{nd:Nat->ND}{m z:Nat}(h:oN (nd m) 13 [] [z])(hz:z<m)(hk:iU (nd z).k=true):jC nd m=true:=by
 have hs:∀i y:Nat,[z][i]?=some y->y<m/\iU (nd y).k=true:=fun i y e=>by
  rcases i with _|i
  ·simp at e;subst e;exact⟨hz,hk⟩
  ·simp at e
 refine vJ h (fun i y e=>(hs i y e).1) (by simp) (by omega) ?_;have hx:=Vp h.f hs;have hkn:=h.f.kn;rw[hkn] at hx;replace hx:fJ nd m 0 1=true:=hx;unfold kK;rw[h.f.k,hkn,hx,show fG (nd m) false false false false 0=true from qa2 h.f false false false false (.inr rfl)];rfl
theorem Ux{nd:Nat->ND}{m z:Nat}(h:oN (nd m) 14 [] [z])(hz:z<m)(hk:(nd z).k=34):jC nd m=true:=by
 refine vJ h (fun i y e=>?_) (by simp) (by omega) ?_
 ·rcases i with _|i
  ·simp at e;omega
  ·simp at e
 ·unfold kK;rw[h.f.k,h.f.kn,h.f.kid (i:=0) rfl hz,hk,show fG (nd m) false false false false 0=true from qa2 h.f false false false false (.inr rfl)];rfl
theorem NS{d:FD}(K:List (List Nat))(ps:List (Nat×Nat))(hn:d.nn=K.length)(hk:∀a,a<K.length->(d.nd a).kn=(K.getD a []).length/\∀b z:Nat,(K.getD a [])[b]?=some z->(d.nd a).c b=(z:Int))(h1:∀a,a<K.length->∀b,b<(K.getD a []).length->ps.getD ((K.getD a []).getD b 0) (0,0)=(a,b))(h2:∀x,x<K.length-1->(ps.getD x (0,0)).1<K.length/\(K.getD (ps.getD x (0,0)).1 [])[(ps.getD x (0,0)).2]?=some x){x:Nat}(hx:x<K.length-1):0<=dn d.nd d.nn x:=by
 obtain⟨ha,hb⟩:=h2 x hx;obtain⟨a,b,hp⟩:∃a b,ps.getD x (0,0)=(a,b):=⟨_,_,rfl⟩;rw[hp] at ha hb;replace ha:a<K.length:=ha;replace hb:(K.getD a [])[b]?=some x:=hb;have hbl:=(List.getElem?_eq_some_iff.1 hb).1;have q:rG d.nd K.length x=(a:Int):=Wi (N:=K.length) (b0:=b) (by rw[(hk a ha).1];exact hbl) (by rw[(hk a ha).2 b x hb];simp) (fun a' b' ha' hb' e=>by
  rw[(hk a' ha').1] at hb';have hz:(K.getD a' [])[b']?=some ((K.getD a' []).getD b' 0):=by
   generalize K.getD a' []=q at *;simp[List.getD_eq_getElem?_getD,List.getElem?_eq_getElem hb']
  rw[(hk a' ha').2 b' _ hz] at e;have e':(K.getD a' []).getD b' 0=x:=by simpa using e
  have:=h1 a' ha' b' hb';rw[e',hp] at this
  cases this;exact⟨rfl,rfl⟩) K.length ha (Nat.le_refl _)
 unfold dn;rw[hn,if_neg (by omega),q];exact Int.natCast_nonneg _
structure Yn(d:FD):Prop where
 p:d.params=0
 vn:d.vn=0
 un:d.un=0
 nm:d.name.size<=40
 l1:0<=d.line
 l2:d.line<=100000
structure GF(d:FD)(z:Int)(f:Nat):Prop where
 nn:d.nn=8
 p0:mg (d.nd 0) 28 0 [] []
 p1:mg (d.nd 1) 23 z [] []
 p2:mg (d.nd 2) 34 0 [] [0,1]
 p3:oN (d.nd 3) 14 [] [2]
 p4:mg (d.nd 4) 36 0 [f] []
 p5:mg (d.nd 5) 34 0 [] [4]
 p6:oN (d.nd 6) 4 [] [5]
 p7:oN (d.nd 7) 1 [] [3,6]
structure TF(d:FD)(z:Int):Prop where
 nn:d.nn=7
 p0:mg (d.nd 0) 28 0 [] []
 p1:mg (d.nd 1) 23 z [] []
 p2:mg (d.nd 2) 34 0 [] [0,1]
 p3:oN (d.nd 3) 14 [] [2]
 p4:(d.nd 4).k=25/\(d.nd 4).l=0/\(d.nd 4).o=0/\(d.nd 4).n=0/\(d.nd 4).f=0/\(d.nd 4).s.size<=4000/\(d.nd 4).rn=0/\(d.nd 4).kn=0
 p5:oN (d.nd 5) 13 [] [4]
 p6:oN (d.nd 6) 1 [] [3,5]
structure MF(d:FD):Prop where
 nn:d.nn=12
 q0:mg (d.nd 0) 36 0 [1] []
 q1:mg (d.nd 1) 34 0 [] [0]
 q2:oN (d.nd 2) 4 [] [1]
 q3:oN (d.nd 3) 1 [] [2]
 q4:mg (d.nd 4) 26 0 [0] []
 q5:mg (d.nd 5) 26 0 [1] []
 q6:mg (d.nd 6) 28 0 [] []
 q7:mg (d.nd 7) 34 0 [] [6,4,5]
 q8:oN (d.nd 8) 4 [] [7]
 q9:oN (d.nd 9) 1 [] [8]
 qa:oN (d.nd 10) 12 [0,1] [3,9]
 qb:oN (d.nd 11) 1 [] [10]
 p:d.params=0
 vn:d.vn=2
 un:d.un=0
 nm:d.name.size<=40
 l1:0<=d.line
 l2:d.line<=100000
 v:∀i,i<2->1<=(d.v i).size/\(d.v i).size<=40
theorem z60{P:Nat->Prop}{z:Nat}(h:P z):∀i y:Nat,[z][i]?=some y->P y:=fun i y e=>by
 rcases i with _|i
 ·simp at e;subst e;exact h
 ·simp at e
theorem KE{P:Nat->Prop}{z1 z2:Nat}(h1:P z1)(h2:P z2):∀i y:Nat,[z1,z2][i]?=some y->P y:=fun i y e=>by
 rcases i with _|_|i
 ·simp at e;subst e;exact h1
 ·simp at e;subst e;exact h2
 ·simp at e
theorem y22{P:Nat->Prop}{z1 z2 z3:Nat}(h1:P z1)(h2:P z2)(h3:P z3):∀i y:Nat,[z1,z2,z3][i]?=some y->P y:=fun i y e=>by
 rcases i with _|_|_|i
 ·simp at e;subst e;exact h1
 ·simp at e;subst e;exact h2
 ·simp at e;subst e;exact h3
 ·simp at e
section
variable {d:FD}{z:Int}{f:Nat}
theorem GF.sh(h:GF d z f)(a:Nat)(ha:a<8):jC d.nd a=true:=by
 rcases(show a=0\/a=1\/a=2\/a=3\/a=4\/a=5\/a=6\/a=7 by omega) with rfl|rfl|rfl|rfl|rfl|rfl|rfl|rfl
 ·exact NJ h.p0
 ·exact Vm h.p1
 ·exact Gu h.p2 (by simp) (by simp) (KE (P:=fun y=>y<2/\iU (d.nd y).k=true) ⟨by omega,by rw[h.p0.f.k];rfl⟩ ⟨by omega,by rw[h.p1.f.k];rfl⟩)
 ·exact Ux h.p3 (by omega) h.p2.f.k
 ·exact V3 h.p4
 ·exact Gu h.p5 (by simp) (by simp) (z60 (P:=fun y=>y<5/\iU (d.nd y).k=true) ⟨by omega,by rw[h.p4.f.k];rfl⟩)
 ·exact Oj h.p6 (by omega) h.p5.f.k
 ·exact GZ h.p7 (by simp) (KE (P:=fun y=>y<7/\iJ (d.nd y).k=true) ⟨by omega,by rw[h.p3.f.k];rfl⟩ ⟨by omega,by rw[h.p6.f.k];rfl⟩)
theorem TF.sh(h:TF d z)(a:Nat)(ha:a<7):jC d.nd a=true:=by
 rcases(show a=0\/a=1\/a=2\/a=3\/a=4\/a=5\/a=6 by omega) with rfl|rfl|rfl|rfl|rfl|rfl|rfl
 ·exact NJ h.p0
 ·exact Vm h.p1
 ·exact Gu h.p2 (by simp) (by simp) (KE (P:=fun y=>y<2/\iU (d.nd y).k=true) ⟨by omega,by rw[h.p0.f.k];rfl⟩ ⟨by omega,by rw[h.p1.f.k];rfl⟩)
 ·exact Ux h.p3 (by omega) h.p2.f.k
 ·obtain⟨k1,k2,k3,k4,k5,k6,k7,k8⟩:=h.p4;exact ym1 k1 k2 k3 k4 k5 k6 k7 k8
 ·exact y29 h.p5 (by omega) (by rw[h.p4.1];rfl)
 ·exact GZ h.p6 (by simp) (KE (P:=fun y=>y<6/\iJ (d.nd y).k=true) ⟨by omega,by rw[h.p3.f.k];rfl⟩ ⟨by omega,by rw[h.p5.f.k];rfl⟩)
theorem MF.sh(h:MF d)(a:Nat)(ha:a<12):jC d.nd a=true:=by
 rcases(show a=0\/a=1\/a=2\/a=3\/a=4\/a=5\/a=6\/a=7\/a=8\/a=9\/a=10\/a=11 by omega) with rfl|rfl|rfl|rfl|rfl|rfl|rfl|rfl|rfl|rfl|rfl|rfl
 ·exact V3 h.q0
 ·exact Gu h.q1 (by simp) (by simp) (z60 (P:=fun y=>y<1/\iU (d.nd y).k=true) ⟨by omega,by rw[h.q0.f.k];rfl⟩)
 ·exact Oj h.q2 (by omega) h.q1.f.k
 ·exact GZ h.q3 (by simp) (z60 (P:=fun y=>y<3/\iJ (d.nd y).k=true) ⟨by omega,by rw[h.q2.f.k];rfl⟩)
 ·exact Vo h.q4
 ·exact Vo h.q5
 ·exact NJ h.q6
 ·exact Gu h.q7 (by simp) (by simp) (y22 (P:=fun y=>y<7/\iU (d.nd y).k=true) ⟨by omega,by rw[h.q6.f.k];rfl⟩ ⟨by omega,by rw[h.q4.f.k];rfl⟩ ⟨by omega,by rw[h.q5.f.k];rfl⟩)
 ·exact Oj h.q8 (by omega) h.q7.f.k
 ·exact GZ h.q9 (by simp) (z60 (P:=fun y=>y<9/\iJ (d.nd y).k=true) ⟨by omega,by rw[h.q8.f.k];rfl⟩)
 ·exact yj2 h.qa (by omega) (by omega) h.q3.f.k h.q9.f.k
 ·exact GZ h.qb (by simp) (z60 (P:=fun y=>y<11/\iJ (d.nd y).k=true) ⟨by omega,by rw[h.qa.f.k];rfl⟩)
theorem GF.par(h:GF d z f){x:Nat}(hx:x<7):0<=dn d.nd d.nn x:=by
 refine NS [[],[],[0,1],[2],[],[4],[5],[3,6]] [(2,0),(2,1),(3,0),(7,0),(5,0),(6,0),(7,1)] h.nn (fun a ha=>?_) (by decide) (by decide) hx;replace ha:a<8:=ha;rcases(show a=0\/a=1\/a=2\/a=3\/a=4\/a=5\/a=6\/a=7 by omega) with rfl|rfl|rfl|rfl|rfl|rfl|rfl|rfl
 ·exact⟨h.p0.f.kn,h.p0.f.c⟩
 ·exact⟨h.p1.f.kn,h.p1.f.c⟩
 ·exact⟨h.p2.f.kn,h.p2.f.c⟩
 ·exact⟨h.p3.f.kn,h.p3.f.c⟩
 ·exact⟨h.p4.f.kn,h.p4.f.c⟩
 ·exact⟨h.p5.f.kn,h.p5.f.c⟩
 ·exact⟨h.p6.f.kn,h.p6.f.c⟩
 ·exact⟨h.p7.f.kn,h.p7.f.c⟩
theorem TF.par(h:TF d z){x:Nat}(hx:x<6):0<=dn d.nd d.nn x:=by
 refine NS [[],[],[0,1],[2],[],[4],[3,5]] [(2,0),(2,1),(3,0),(6,0),(5,0),(6,1)] h.nn (fun a ha=>?_) (by decide) (by decide) hx;replace ha:a<7:=ha;rcases(show a=0\/a=1\/a=2\/a=3\/a=4\/a=5\/a=6 by omega) with rfl|rfl|rfl|rfl|rfl|rfl|rfl
 ·exact⟨h.p0.f.kn,h.p0.f.c⟩
 ·exact⟨h.p1.f.kn,h.p1.f.c⟩
 ·exact⟨h.p2.f.kn,h.p2.f.c⟩
 ·exact⟨h.p3.f.kn,h.p3.f.c⟩
 ·exact⟨h.p4.2.2.2.2.2.2.2,fun b y e=>by simp at e⟩
 ·exact⟨h.p5.f.kn,h.p5.f.c⟩
 ·exact⟨h.p6.f.kn,h.p6.f.c⟩
theorem MF.par(h:MF d){x:Nat}(hx:x<11):0<=dn d.nd d.nn x:=by
 refine NS [[],[0],[1],[2],[],[],[],[6,4,5],[7],[8],[3,9],[10]] [(1,0),(2,0),(3,0),(10,0),(7,1),(7,2),(7,0),(8,0),(9,0),(10,1),(11,0)] h.nn (fun a ha=>?_) (by decide) (by decide) hx;replace ha:a<12:=ha;rcases(show a=0\/a=1\/a=2\/a=3\/a=4\/a=5\/a=6\/a=7\/a=8\/a=9\/a=10\/a=11 by omega) with rfl|rfl|rfl|rfl|rfl|rfl|rfl|rfl|rfl|rfl|rfl|rfl
 ·exact⟨h.q0.f.kn,h.q0.f.c⟩
 ·exact⟨h.q1.f.kn,h.q1.f.c⟩
 ·exact⟨h.q2.f.kn,h.q2.f.c⟩
 ·exact⟨h.q3.f.kn,h.q3.f.c⟩
 ·exact⟨h.q4.f.kn,h.q4.f.c⟩
 ·exact⟨h.q5.f.kn,h.q5.f.c⟩
 ·exact⟨h.q6.f.kn,h.q6.f.c⟩
 ·exact⟨h.q7.f.kn,h.q7.f.c⟩
 ·exact⟨h.q8.f.kn,h.q8.f.c⟩
 ·exact⟨h.q9.f.kn,h.q9.f.c⟩
 ·exact⟨h.qa.f.kn,h.qa.f.c⟩
 ·exact⟨h.qb.f.kn,h.qb.f.c⟩
end
theorem TY(fn:Nat->FD)(b:Nat):∀m,(∀j,j<m->(fn j).nn<=b)->tot fn m<=b*m
 |0,_=>by unfold tot;omega
 |m+1,h=>by
  have h1:=TY fn b m fun j hj=>h j (by omega);have h2:=h m (by omega);unfold tot;rw[Nat.mul_add,Nat.mul_one];omega
section
variable {d:FD}
theorem GF.kinds{z:Int}{f:Nat}(h:GF d z f){a:Nat}(ha:a<8):((d.nd a).k=36/\a=4)\/(d.nd a).k=28\/(d.nd a).k=23\/(d.nd a).k=34\/(d.nd a).k=14\/(d.nd a).k=4\/(d.nd a).k=1:=by
 rcases(show a=0\/a=1\/a=2\/a=3\/a=4\/a=5\/a=6\/a=7 by omega) with rfl|rfl|rfl|rfl|rfl|rfl|rfl|rfl
 ·have:=h.p0.f.k;omega
 ·have:=h.p1.f.k;omega
 ·have:=h.p2.f.k;omega
 ·have:=h.p3.f.k;omega
 ·have:=h.p4.f.k;omega
 ·have:=h.p5.f.k;omega
 ·have:=h.p6.f.k;omega
 ·have:=h.p7.f.k;omega
theorem TF.kinds{z:Int}(h:TF d z){a:Nat}(ha:a<7):(d.nd a).k=25\/(d.nd a).k=28\/(d.nd a).k=23\/(d.nd a).k=34\/(d.nd a).k=14\/(d.nd a).k=13\/(d.nd a).k=1:=by
 rcases(show a=0\/a=1\/a=2\/a=3\/a=4\/a=5\/a=6 by omega) with rfl|rfl|rfl|rfl|rfl|rfl|rfl
 ·have:=h.p0.f.k;omega
 ·have:=h.p1.f.k;omega
 ·have:=h.p2.f.k;omega
 ·have:=h.p3.f.k;omega
 ·have:=h.p4.1;omega
 ·have:=h.p5.f.k;omega
 ·have:=h.p6.f.k;omega
theorem MF.kinds(h:MF d){a:Nat}(ha:a<12):((d.nd a).k=36/\a=0)\/((d.nd a).k=12/\a=10)\/((d.nd a).k=26/\(a=4\/a=5))\/(d.nd a).k=28\/(d.nd a).k=34\/(d.nd a).k=4\/(d.nd a).k=1:=by
 rcases(show a=0\/a=1\/a=2\/a=3\/a=4\/a=5\/a=6\/a=7\/a=8\/a=9\/a=10\/a=11 by omega) with rfl|rfl|rfl|rfl|rfl|rfl|rfl|rfl|rfl|rfl|rfl|rfl
 ·have:=h.q0.f.k;omega
 ·have:=h.q1.f.k;omega
 ·have:=h.q2.f.k;omega
 ·have:=h.q3.f.k;omega
 ·have:=h.q4.f.k;omega
 ·have:=h.q5.f.k;omega
 ·have:=h.q6.f.k;omega
 ·have:=h.q7.f.k;omega
 ·have:=h.q8.f.k;omega
 ·have:=h.q9.f.k;omega
 ·have:=h.qa.f.k;omega
 ·have:=h.qb.f.k;omega
theorem FX{a b x:Nat}{k n:Int}{rs cs:List Nat}(hn:a<d.nn)(h:xM (d.nd a) k n rs cs)(hb:cs[b]?=some x):qc2 d.nd d.nn a b x:=⟨hn,by rw[h.kn];exact(List.getElem?_eq_some_iff.1 hb).1,h.c b x hb⟩
theorem MF.vis(h:MF d){v t:Nat}(ht:t=0\/t=1)(hv:[(0:Nat),1][t]?=some v):qU d.nd d.nn (v:Int) (4+t):=by
 have nn:=h.nn;have hb:qU d.nd d.nn (v:Int) 9:=.here _ 10 1 (FX (by omega) h.qa.f rfl) (.inr ⟨.inr (.inr h.qa.f.k),by rw[h.qa.f.kn];rfl,t,by rw[h.qa.f.rn];exact(List.getElem?_eq_some_iff.1 hv).1,h.qa.f.r _ _ hv⟩);have hc:qU d.nd d.nn (v:Int) 7:=.up _ 8 0 (FX (by omega) h.q8.f rfl) (.up _ 9 0 (FX (by omega) h.q9.f rfl) hb);rcases ht with rfl|rfl
 ·exact .up _ 7 1 (FX (by omega) h.q7.f rfl) hc
 ·exact .up _ 7 2 (FX (by omega) h.q7.f rfl) hc
theorem MF.refs{u:UD}(hu:2<=u.n)(h:MF (u.fn 0)){a:Nat}(ha:a<12):Ou u 0 a:=by
 unfold Ou;rw[h.vn];have hk:=h.kinds ha;refine⟨fun c=>by omega,fun c=>?_,fun c=>?_,fun c j hj=>?_⟩
 ·obtain rfl:a=0:=by omega
  rw[h.q0.f.r 0 1 rfl];exact⟨by decide,by omega⟩
 ·rcases(show a=4\/a=5 by omega) with rfl|rfl
  ·rw[h.q4.f.r 0 0 rfl];exact⟨⟨by decide,by decide⟩,.inr (h.vis (t:=0) (.inl rfl) rfl)⟩
  ·rw[h.q5.f.r 0 1 rfl];exact⟨⟨by decide,by decide⟩,.inr (h.vis (t:=1) (.inr rfl) rfl)⟩
 ·have ha':a=10:=by
   unfold mW at c;omega
  subst ha';have hno:∀m,m<10->¬mW ((u.fn 0).nd m).k:=fun m hm c=>by
   unfold mW at c;have:=h.kinds (a:=m) (by omega);omega
  rw[h.qa.f.rn] at hj;have hr:∀z,[(0:Nat),1][j]?=some z->fO ((((u.fn 0).nd 10).r j)) 2/\¬jH (u.fn 0) 10 j (((u.fn 0).nd 10).r j):=fun z hz=>by
   have hj2:j<2:=hj;have hz2:z=j:=by
    rcases(show j=0\/j=1 by omega) with rfl|rfl<;>(simp at hz;omega)
   rw[h.qa.f.r j z hz];refine⟨⟨by omega,by omega⟩,?_⟩;rintro(c1|⟨m,c1,c2,_⟩|⟨b,c1,c4⟩)
   ·rw[h.p] at c1;omega
   ·exact hno m c1 c2
   ·obtain rfl:b=0:=by omega
    rw[h.qa.f.r 0 0 rfl] at c4;omega
  exact hr _ (List.getElem?_eq_getElem (by simpa using hj))
end
structure yN(u:UD)(n:Nat):Prop where
 un:u.n=n+1
 n1:1<=n
 n2:n<=40
 m:MF (u.fn 0)
 g:∀j,1<=j->j<n->GF (u.fn j) ((j:Int)-1) (j+1)
 t:TF (u.fn n) ((n:Int)-1)
 h:∀j,1<=j->j<n+1->Yn (u.fn j)
section
variable {u:UD}{n:Nat}
theorem yN.part(_h:yN u n){f:Nat}(hf:f<n+1):f=0\/(1<=f/\f<n)\/f=n:=by omega
theorem yN.nn(h:yN u n){f:Nat}(hf:f<n+1):(u.fn f).nn<=12/\1<=(u.fn f).nn:=by
 rcases h.part hf with rfl|c|rfl
 ·have:=h.m.nn;omega
 ·have:=(h.g f c.1 c.2).nn;omega
 ·have:=h.t.nn;omega
theorem yN.makes(h:yN u n){f x:Nat}{g:Int}(hm:Ba u f x g):g=(f:Int)+1/\f<n/\x=if f=0 then 0 else 4:=by
 obtain⟨h1,h2,h3,h4⟩:=hm;have hn:=h.un;rcases h.part (f:=f) (by omega) with rfl|c|rfl
 ·have hk:=h.m.kinds (a:=x) (by have:=h.m.nn;omega);obtain rfl:x=0:=by omega
  rw[h.m.q0.f.r 0 1 rfl] at h4;have:=h.n1;exact⟨by omega,by omega,rfl⟩
 ·have hg:=h.g f c.1 c.2;have hk:=hg.kinds (a:=x) (by have:=hg.nn;omega);obtain rfl:x=4:=by omega
  rw[hg.p4.f.r 0 (f+1) rfl] at h4;exact⟨by omega,c.2,by rw[if_neg (by omega)]⟩
 ·have hk:=h.t.kinds (a:=x) (by have:=h.t.nn;omega);omega
theorem yN.make(h:yN u n){f:Nat}(hf:f<n):Ba u f (if f=0 then 0 else 4) ((f+1:Nat):Int):=by
 have hn:=h.un;by_cases c:f=0
 ·subst c;rw[if_pos rfl];exact⟨by omega,by have:=h.m.nn;omega,h.m.q0.f.k,h.m.q0.f.r 0 1 rfl⟩
 ·rw[if_neg c];have hg:=h.g f (by omega) hf;exact⟨by omega,by have:=hg.nn;omega,hg.p4.f.k,hg.p4.f.r 0 (f+1) rfl⟩
theorem yn8(h:yN u n):∀y,¬jd u y:=by
 have hn:=h.un;have n1:=h.n1;have n2:=h.n2;have nn0:=h.m.nn;have nnt:=h.t.nn;rintro y (b|b|b|b|b|b|b|b|b)
 ·refine b.2.2.2 ⟨by omega,by omega,?_⟩;have:=TY u.fn 12 u.n (fun j hj=>(h.nn (by omega)).1);omega
 ·obtain⟨_,h1,_,hb⟩:=b;refine hb ?_;by_cases c:y.f=0
  ·rw[c];have hM:=h.m;exact⟨⟨by omega,by rw[hM.vn];omega,by rw[hM.un];omega,by rw[hM.p];decide,by rw[hM.p,hM.vn];decide⟩,⟨hM.l1,hM.l2,hM.nm,fun _=>⟨hM.p,hM.un⟩⟩,fun i hi=>hM.v i (by rw[hM.vn] at hi;exact hi)⟩
  ·have hG:=h.h y.f (by omega) (by omega);have hn9:=(h.nn (f:=y.f) (by omega)).2;exact⟨⟨by omega,by rw[hG.vn];omega,by rw[hG.un];omega,by rw[hG.p];decide,by rw[hG.p,hG.vn];decide⟩,⟨hG.l1,hG.l2,hG.nm,fun e=>absurd e c⟩,fun i hi=>by rw[hG.vn] at hi;omega⟩
 ·obtain⟨_,h1,h2,hb⟩:=b;replace h2:y.n<(u.fn y.f).nn:=h2;rcases h.part (f:=y.f) (by omega) with e|c|e
  ·rw[e] at h2 hb;rw[h.m.sh _ (by omega)] at hb;cases hb
  ·have hg:=h.g y.f c.1 c.2;rw[hg.sh _ (by have:=hg.nn;omega)] at hb;cases hb
  ·rw[e] at h2 hb;rw[h.t.sh _ (by omega)] at hb;cases hb
 ·obtain⟨_,h1,h2,hb⟩:=b;rcases h.part (f:=y.f) (by omega) with e|c|e
  ·rw[e] at h2 hb;rcases hb with⟨b1,b2⟩|⟨b1,b2⟩
   ·have:=h.m.par (x:=y.n) (by omega);omega
   ·refine b2 ?_;rw[b1,nn0];exact h.m.qb.f.k
  ·have hg:=h.g y.f c.1 c.2;have nng:=hg.nn;rcases hb with⟨b1,b2⟩|⟨b1,b2⟩
   ·have:=hg.par (x:=y.n) (by omega);omega
   ·refine b2 ?_;rw[b1,nng];exact hg.p7.f.k
  ·rw[e] at h2 hb;rcases hb with⟨b1,b2⟩|⟨b1,b2⟩
   ·have:=h.t.par (x:=y.n) (by omega);omega
   ·refine b2 ?_;rw[b1,nnt];exact h.t.p6.f.k
 ·obtain⟨_,h1,h2,hb⟩:=b;have:=(z26 (dn (u.fn y.f).nd (u.fn y.f).nn) (u.fn y.f).nn ((u.fn y.f).nn-1) y.n).2;have:=(h.nn (f:=y.f) (by omega)).1;omega
 ·obtain⟨_,h1,h2,hb⟩:=b;refine hb ?_;rcases h.part (f:=y.f) (by omega) with e|c|e
  ·rw[e] at h2 ⊢;exact MF.refs (by omega) h.m (by omega)
  ·have hg:=h.g y.f c.1 c.2;have hk:=hg.kinds (a:=y.n) (by have:=hg.nn;omega);refine⟨fun c=>by omega,fun c'=>?_,fun c=>by omega,fun c=>?_⟩
   ·obtain e4:y.n=4:=by omega
    rw[e4,hg.p4.f.r 0 (y.f+1) rfl];exact⟨by omega,by omega⟩
   ·unfold mW at c;omega
  ·rw[e] at h2;have hk:=h.t.kinds (a:=y.n) (by omega);rw[e];refine⟨fun c=>by omega,fun c=>by omega,fun c=>by omega,fun c=>?_⟩;unfold mW at c;omega
 ·obtain⟨_,h1,h2,hb,_⟩:=b;rcases h.part (f:=y.f) (by omega) with e|c|e
  ·rw[e] at h2 hb;have:=h.m.kinds (a:=y.n) (by omega);omega
  ·have hg:=h.g y.f c.1 c.2;have:=hg.kinds (a:=y.n) (by have:=hg.nn;omega);omega
  ·rw[e] at h2 hb;have:=h.t.kinds (a:=y.n) (by omega);omega
 ·obtain⟨_,h1,h2,hb⟩:=b;rcases hb with(⟨b1,_⟩|⟨b1,b2,b3⟩)|⟨b1,b2,b3⟩
  ·rcases h.part (f:=y.f) (by omega) with e|c|e
   ·rw[e] at h2 b1;have:=h.m.kinds (a:=y.n) (by omega);omega
   ·have hg:=h.g y.f c.1 c.2;have:=hg.kinds (a:=y.n) (by have:=hg.nn;omega);omega
   ·rw[e] at h2 b1;have:=h.t.kinds (a:=y.n) (by omega);omega
  ·obtain⟨m1,m2,_⟩:=h.makes ⟨h1,h2,b1,rfl⟩;rw[m1] at b3;rcases b3 with b3|b3
   ·omega
   ·refine b3 fun i hi=>?_;rw[show((y.f:Int)+1).toNat=y.f+1 by omega,(h.h (y.f+1) (by omega) (by omega)).un] at hi;omega
  ·obtain⟨m1,m2,m3⟩:=h.makes ⟨h1,h2,b1,rfl⟩;obtain⟨f',x',c1,c2⟩:=b3;obtain⟨k1,k2,k3⟩:=h.makes c2;have e:f'=y.f:=by omega
   rw[e,<-m3] at k3;omega
 ·obtain⟨_,_,h1,h2,hb⟩:=b;have hm:=h.make (f:=y.f-1) (by omega);rw[show y.f-1+1=y.f by omega] at hm;exact hb ⟨_,_,hm⟩
end
end Go.Proofs.YtihnikeikhjndaaGreatDoor
