import Derived.Test.YthnkncpegihbhaaGreatDoorUnA
import Derived.Deep.DrawnRows
import Derived.Deep.RegionHeld3
set_option maxRecDepth 100000
set_option maxHeartbeats 16000000
namespace Go.Proofs.YthnkncpegihbhaaGreatDoor
section
open Go.RowKit
attribute [local go_sem] iD
attribute [local go_sem ↓] Go.wp_at_zero Go.wp_at_succ
def oW(k:Int):Bool:=decide (1<=k) && decide (k<=14)
def mM(k:Int):Bool:=decide (20<=k) && decide (k<=38)
def KQ(k:Int):Bool:=k==26 || k==27 || k==33
def Lr(k:Int):Bool:=k==34 || k==37
def jL(nd:Nat->ND)(m i:Nat):Int:=if i<(nd m).kn then(if 0<=(nd m).c i/\(nd m).c i<m then(nd ((nd m).c i).toNat).k else 0) else 0
def allB(p:Nat->Bool)(lo hi:Nat):Bool:=decide (∀i,i<hi->lo<=i->p i=true)
theorem iw{p:Nat->Bool}{lo hi:Nat}:allB p lo hi=true↔∀i,lo<=i->i<hi->p i=true:=by
 unfold allB;rw[decide_eq_true_iff];exact⟨fun h i a b=>h i b a,fun h i a b=>h i b a⟩
theorem Uj{p:Nat->Bool}{lo hi k:Nat}(h1:lo<=k)(h2:k<hi)(h:p k=false):allB p lo hi=false:=by
 cases e:allB p lo hi
 ·rfl
 ·rw[iw.1 e k h1 h2] at h;cases h
def lD(nd:Nat->ND)(m lo hi:Nat):Bool:=allB (fun i=>mM (jL nd m i)) lo hi
def Hy(o' n':Int)(f':Nat)(s':ByteArray)(rn:Nat)(o n f s:Bool)(r:Int):Bool:=(o || o'==0) && (n || n'==0) && (f || fz f') && (s || se s') && ((rn:Int)==r)
def kY(d:ND)(o n f s:Bool)(r:Int):Bool:=Hy d.o d.n d.f d.s d.rn o n f s r
end
def Seen(nd:Nat->ND)(i j:Nat)(x a b:Nat):Prop:=(a<i/\b<(nd a).kn\/a=i/\b<j)/\(nd a).c b=x
def uI(p:Int)(Q:Nat->Nat->Prop):Prop:=
 (p = -2->∀a b,¬Q a b)/\(0<=p->∃b,Q p.toNat b/\∀a' b',Q a' b'->a'=p.toNat/\b'=b)
theorem uI.congr{p:Int}{Q R:Nat->Nat->Prop}(h:uI p Q)(e:∀a b,Q a b↔R a b):uI p R:=
 ⟨fun h0 a b hr=>h.1 h0 a b ((e a b).2 hr),fun h0=>by
  obtain⟨b,h1,h2⟩:=h.2 h0;exact⟨b,(e _ _).1 h1,fun a' b' hr=>h2 a' b' ((e _ _).2 hr)⟩⟩
theorem z44{nd:Nat->ND}{n i:Nat}(hi:i<n)(hk:uh nd n){p:Nat->Int}(hp:∀x,uI (p x) (Seen nd i 0 x)):∀j,j<=(nd i).kn->∀x,uI (xP nd i p j x) (Seen nd i j x)
 |0,_=>hp
 |j+1,hj=>fun x=>by
  have ih:=z44 hi hk hp j (by omega) x;have h:=hk i hi j (by omega);have hs:∀a b,Seen nd i (j+1) x a b↔(Seen nd i j x a b\/a=i/\b=j/\(nd i).c j=x):=by
   intro a b;unfold Seen;constructor
   ·rintro⟨h1|h1,h2⟩
    ·exact .inl ⟨.inl h1,h2⟩
    ·by_cases e:b=j
     ·obtain⟨rfl,_⟩:=h1;subst e;exact .inr ⟨rfl,rfl,h2⟩
     ·exact .inl ⟨.inr ⟨h1.1,by omega⟩,h2⟩
   ·rintro(⟨h1|h1,h2⟩|⟨rfl,rfl,h2⟩)
    ·exact⟨.inl h1,h2⟩
    ·exact⟨.inr ⟨h1.1,by omega⟩,h2⟩
    ·exact⟨.inr ⟨rfl,by omega⟩,h2⟩
  unfold xP I7;by_cases e:x=((nd i).c j).toNat
  ·have ex:(nd i).c j=(x:Int):=by omega
   rw[aO e,<-e];by_cases e2:xP nd i p j x = -2
   ·rw[aO e2];refine⟨fun h0=>by omega,fun _=>⟨j,(hs _ _).2 (.inr ⟨bV _,rfl,ex⟩),fun a' b' hr=>?_⟩⟩;rcases(hs _ _).1 hr with h1|h1
    ·exact absurd h1 (ih.1 e2 _ _)
    ·rw[bV];exact⟨h1.1,h1.2.1⟩
   ·rw[au e2];exact⟨fun h0=>by omega,fun h0=>by omega⟩
  ·rw[au e];refine ih.congr fun a b=>⟨fun h1=>(hs _ _).2 (.inl h1),fun h1=>?_⟩;rcases(hs _ _).1 h1 with h1|h1
   ·exact h1
   ·exact absurd h1.2.2 (by omega)
theorem qv7{nd:Nat->ND}{n:Nat}(hk:uh nd n):∀i,i<=n->∀x,uI (xR nd i x) (Seen nd i 0 x)
 |0,_=>fun x=>⟨fun _ a b h=>by unfold Seen at h;omega,fun h=>by unfold xR at h;omega⟩
 |i+1,hi=>fun x=>by
  refine(z44 (by omega) hk (qv7 hk i (by omega)) (nd i).kn (ah _) x).congr fun a b=>?_;unfold Seen;constructor
  ·rintro⟨h1|⟨rfl,h1⟩,h2⟩
   ·exact⟨.inl ⟨by omega,h1.2⟩,h2⟩
   ·exact⟨.inl ⟨by omega,h1⟩,h2⟩
  ·rintro⟨h1|h1,h2⟩
   ·by_cases e:a=i
    ·subst e;exact⟨.inr ⟨rfl,h1.2⟩,h2⟩
    ·exact⟨.inl ⟨by omega,h1.2⟩,h2⟩
   ·omega
def rZ(nd:Nat->ND)(n p j x:Nat):Prop:=p<n/\j<(nd p).kn/\(nd p).c j=x
theorem yj8{nd:Nat->ND}{n:Nat}(hk:uh nd n){x:Nat}(h:0<=jM nd n x):∃j,rZ nd n (jM nd n x).toNat j x/\∀p' j',rZ nd n p' j' x->p'=(jM nd n x).toNat/\j'=j:=by
 have hx:jM nd n x=xR nd n x:=by
  unfold jM at h ⊢;split
  ·rename_i c;rw[aO c] at h;omega
  ·rfl
 rw[hx] at h ⊢;obtain⟨b,h1,h2⟩:=(qv7 hk n (ah _) x).2 h;have hq:∀a b,Seen nd n 0 x a b↔rZ nd n a b x:=by
  intro a b;unfold Seen rZ;constructor
  ·rintro⟨h1|h1,h2⟩
   ·exact⟨h1.1,h1.2,h2⟩
   ·omega
  ·rintro⟨h1,h2,h3⟩;exact⟨.inl ⟨h1,h2⟩,h3⟩
 exact⟨b,(hq _ _).1 h1,fun p' j' h=>h2 _ _ ((hq _ _).2 h)⟩
def MX(c:Nat->Int)(k:Nat):Nat->Int:=fun x=>if x=k then c k+1 else c x
def xG(nd:Nat->ND)(i:Nat)(c:Nat->Int):Nat->Nat->Int
 |0=>c
 |j+1=>MX (xG nd i c j) ((nd i).c j).toNat
def sF(nd:Nat->ND):Nat->Nat->Int
 |0=>fun _=>0
 |i+1=>xG nd i (sF nd i) (nd i).kn
def PC(p c:Int):Prop:=(p = -2/\c=0)\/(0<=p/\c=1)\/(p = -3/\2<=c)
theorem z47(nd:Nat->ND)(i:Nat){p c:Nat->Int}(h:∀x,PC (p x) (c x)):∀j x,PC (xP nd i p j x) (xG nd i c j x)
 |0=>h
 |j+1=>fun x=>by
  have ih:=z47 nd i h j;unfold xP xG I7 MX;by_cases e:x=((nd i).c j).toNat
  ·rw[aO e,aO e];have:=ih ((nd i).c j).toNat;unfold PC at this ⊢;split<;>omega
  ·rw[au e,au e];exact ih x
theorem qw0(nd:Nat->ND):∀i x,PC (xR nd i x) (sF nd i x)
 |0=>fun _=>.inl ⟨rfl,rfl⟩
 |i+1=>z47 nd i (qw0 nd i) _
theorem VP(nd:Nat->ND)(i:Nat){c:Nat->Int}{N:Int}(h:∀x,0<=c x/\c x<=N):∀(j x:Nat),0<=xG nd i c j x/\xG nd i c j x<=N+j
 |0=>fun x=>by have:=h x;unfold xG;omega
 |j+1=>fun x=>by
  have ih:=VP nd i h j;unfold xG MX;split
  ·have:=ih ((nd i).c j).toNat;omega
  ·have:=ih x;omega
theorem ye4{nd:Nat->ND}{n:Nat}(hk:uh nd n){x:Nat}(hx:x<n-1):sF nd n x=1↔0<=jM nd n x:=by
 rw[y91 hk,au (by omega)];have:=qw0 nd n x;unfold PC at this;omega
structure jw(nd:Nat->ND)(n:Nat):Prop where
 pos:0<n
 kids:uh nd n
 par:∀x,x<n-1->0<=jM nd n x
 last:(nd (n-1)).k=1
theorem jw.up{nd:Nat->ND}{n:Nat}(h:jw nd n){x:Nat}(hx:x<n-1):∃p j:Nat,jM nd n x=(p:Int)/\x<p/\rZ nd n p j x/\∀p' j',rZ nd n p' j' x->p'=p/\j'=j:=by
 have h0:=h.par x hx;obtain⟨j,h1,h2⟩:=yj8 h.kids h0;have h3:=yj9 h.kids x;exact⟨(jM nd n x).toNat,j,by omega,by omega,h1,h2⟩
inductive Sub(nd:Nat->ND):Nat->Nat->Prop
 |self (x:Nat):Sub nd x x
 |kid (p j c x:Nat) (hj:j<(nd p).kn) (hc:(nd p).c j=(c:Int)) (h:Sub nd c x):Sub nd p x
theorem Sub.up{nd:Nat->ND}{r p:Nat}(h:Sub nd r p):∀{j x:Nat},j<(nd p).kn->(nd p).c j=(x:Int)->Sub nd r x:=by
 induction h with
 |self y=>intro j x hj hc;exact .kid y j x x hj hc (.self x)
 |kid p' j' c' x' hj' hc' h' ih=>intro j x hj hc;exact .kid p' j' c' x hj' hc' (ih hj hc)
theorem jw.all{nd:Nat->ND}{n:Nat}(h:jw nd n):∀d x,x+d=n-1->Sub nd (n-1) x:=by
 intro d
 induction d using Nat.strongRecOn with
 |ind d ih=>
  intro x hx;by_cases e:d=0
  ·subst e;have:x=n-1:=by omega
   subst this;exact .self _
  ·obtain⟨p,j,h1,h2,h3,_⟩:=h.up (x:=x) (by omega);have hp:=h3.1;exact(ih (n-1 - p) (by omega) p (by omega)).up h3.2.1 h3.2.2
def uK(nd:Nat->ND)(n:Nat)(D:Nat->Int):Prop:=D (n-1)=0/\∀x,x<n-1->D x=D (jM nd n x).toNat+1
theorem uK.uniq{nd:Nat->ND}{n:Nat}(h:jw nd n){D E:Nat->Int}(hD:uK nd n D)(hE:uK nd n E):∀d x,x+d=n-1->D x=E x:=by
 intro d
 induction d using Nat.strongRecOn with
 |ind d ih=>
  intro x hx;by_cases e:d=0
  ·subst e;have:x=n-1:=by omega
   subst this;rw[hD.1,hE.1]
  ·obtain⟨p,j,h1,h2,h3,_⟩:=h.up (x:=x) (by omega);have hp:=h3.1;rw[hD.2 x (by omega),hE.2 x (by omega),h1,bV,ih (n-1 - p) (by omega) p (by omega)]
theorem ZK(p:Nat->Int)(n:Nat):∀(k j x:Nat),j+k<=n-1->n-1 - j<=x->nI p n (j+k) x=nI p n j x
 |0,_,_,_,_=>rfl
 |k+1,j,x,hk,h=>by
  rw[<-Nat.add_assoc];show(if x=n-2 - (j+k)/\0<=p (n-2 - (j+k)) then nI p n (j+k) (p (n-2 - (j+k))).toNat+1 else nI p n (j+k) x)=_;rw[au (fun h=>by omega)];exact ZK p n k j x (by omega) h
theorem j09{nd:Nat->ND}{n:Nat}(h:jw nd n):uK nd n (nI (jM nd n) n (n-1)):=by
 have hk:∀j x,j<=n-1->n-1 - j<=x->nI (jM nd n) n (n-1) x=nI (jM nd n) n j x:=fun j x hj hx=>by
  have:=ZK (jM nd n) n (n-1 - j) j x (by omega) hx
  rwa [show j+(n-1 - j)=n-1 by omega] at this
 refine⟨hk 0 _ (by omega) (by omega),fun x hx=>?_⟩;obtain⟨p,j,h1,h2,h3,_⟩:=h.up hx;have hp:=h3.1;rw[hk (n-2 - x+1) x (by omega) (by omega)];show(if x=n-2 - (n-2 - x)/\0<=jM nd n (n-2 - (n-2 - x)) then nI (jM nd n) n (n-2 - x) (jM nd n (n-2 - (n-2 - x))).toNat+1 else nI (jM nd n) n (n-2 - x) x)=_;rw[show n-2 - (n-2 - x)=x by omega,h1,aO ⟨rfl,by omega⟩,bV,hk (n-2 - x) p (by omega) (by omega)]
def lZ(nd:Nat->ND)(i:Nat)(D:Nat->Int):Nat->Nat->Int
 |0=>D
 |j+1=>fun x=>if x=((nd i).c j).toNat then lZ nd i D j i+1 else lZ nd i D j x
def qa2(nd:Nat->ND)(n:Nat):Nat->Nat->Int
 |0=>fun _=>0
 |k+1=>lZ nd (n-1 - k) (qa2 nd n k) (nd (n-1 - k)).kn
theorem Sl{nd:Nat->ND}{i:Nat}{D:Nat->Int}{x:Nat}:∀j,(∀b,b<j->((nd i).c b).toNat≠x)->lZ nd i D j x=D x
 |0,_=>rfl
 |j+1,h=>by
  show(if x=((nd i).c j).toNat then _ else _)=_;rw[au (fun e=>h j (by omega) e.symm)];exact Sl j fun b hb=>h b (by omega)
theorem Zn{nd:Nat->ND}{n i:Nat}(hi:i<n)(hk:uh nd n){D:Nat->Int}{x:Nat}:∀j,j<=(nd i).kn->(∃b,b<j/\((nd i).c b).toNat=x)->lZ nd i D j x=D i+1
 |0,_,⟨_,h,_⟩=>by omega
 |j+1,hj,⟨b,hb,he⟩=>by
  have hself:lZ nd i D j i=D i:=Sl j fun b hb=>by have:=hk i hi b (by omega);omega
  show(if x=((nd i).c j).toNat then lZ nd i D j i+1 else lZ nd i D j x)=_;by_cases e:x=((nd i).c j).toNat
  ·rw[aO e,hself]
  ·rw[au e];have:b≠j:=fun h=>e (by rw[<-h];exact he.symm);exact Zn hi hk j (by omega) ⟨b,by omega,he⟩
theorem VQ{nd:Nat->ND}{i:Nat}{D:Nat->Int}{N:Int}(h:∀x,0<=D x/\D x<=N):∀(j x:Nat),0<=lZ nd i D j x/\lZ nd i D j x<=N+j
 |0=>fun x=>by have:=h x;unfold lZ;omega
 |j+1=>fun x=>by
  have ih:=VQ (nd:=nd) (i:=i) h j;unfold lZ;show 0<=(if x=((nd i).c j).toNat then lZ nd i D j i+1 else lZ nd i D j x)/\(if x=((nd i).c j).toNat then lZ nd i D j i+1 else lZ nd i D j x)<=_;split
  ·have:=ih i;omega
  ·have:=ih x;omega
theorem qv9{nd:Nat->ND}{n:Nat}(hk:uh nd n):∀(m k x:Nat),k+m<=n->n-1 - k<=x->qa2 nd n (k+m) x=qa2 nd n k x
 |0,_,_,_,_=>rfl
 |m+1,k,x,hm,hx=>by
  rw[<-Nat.add_assoc];show lZ nd (n-1 - (k+m)) (qa2 nd n (k+m)) (nd (n-1 - (k+m))).kn x=_;rw[Sl _ (fun b hb=>by have:=hk (n-1 - (k+m)) (by omega) b hb;omega)];exact qv9 hk m k x (by omega) hx
theorem ya3{nd:Nat->ND}{n:Nat}(h:jw nd n):uK nd n (qa2 nd n n):=by
 have hpos:=h.pos;have hk:∀j x,j<=n->n-1 - j<=x->qa2 nd n n x=qa2 nd n j x:=fun j x hj hx=>by
  have:=qv9 h.kids (n-j) j x (by omega) hx
  rwa [show j+(n-j)=n by omega] at this
 refine⟨hk 0 _ (by omega) (by omega),fun x hx=>?_⟩;obtain⟨p,j,h1,h2,h3,h4⟩:=h.up hx;have hp:=h3.1;rw[h1,bV];have hstep:∀m,n-1 - p+1 + m<=n->qa2 nd n (n-1 - p+1 + m) x=qa2 nd n (n-1 - p) p+1:=by
  intro m
  induction m with
  |zero=>
   intro hm;show lZ nd (n-1 - (n-1 - p)) (qa2 nd n (n-1 - p)) (nd (n-1 - (n-1 - p))).kn x=_;rw[show n-1 - (n-1 - p)=p by omega];exact Zn hp h.kids _ (ah _) ⟨j,h3.2.1,by rw[h3.2.2];exact bV _⟩
  |succ m ih=>
   intro hm;show lZ nd (n-1 - (n-1 - p+1 + m)) (qa2 nd n (n-1 - p+1 + m)) (nd (n-1 - (n-1 - p+1 + m))).kn x=_;rw[Sl _ (fun b hb e=>by
    have hc:=h.kids (n-1 - (n-1 - p+1 + m)) (by omega) b hb;have:=h4 (n-1 - (n-1 - p+1 + m)) b ⟨by omega,hb,by omega⟩;omega)]
   exact ih (by omega)
 have:=hstep (n-(n-1 - p+1)) (by omega);rw[show n-1 - p+1 + (n-(n-1 - p+1))=n by omega] at this;rw[this,hk (n-1 - p) p (by omega) (by omega)]
theorem yn8{nd:Nat->ND}{n:Nat}(h:jw nd n){x:Nat}(hx:x<n):qa2 nd n n x=nI (jM nd n) n (n-1) x:=
 uK.uniq h (ya3 h) (j09 h) (n-1 - x) x (by omega)
structure FT where
 c:Nat
 f:Nat
 n:Nat
def FT.le(x y:FT):Prop:=x.c<y.c\/x.c=y.c/\(x.f<y.f\/x.f=y.f/\x.n<=y.n)
instance (x y:FT):Decidable (x.le y):=by unfold FT.le;infer_instance
abbrev oI:FT:=⟨0,0,0⟩
def Least(P:FT->Prop)(x:FT):Prop:=(x=oI/\∀y,¬P y)\/(0<x.c/\P x/\∀y,P y->x.le y)
theorem FT.ext{x y:FT}(h1:x.c=y.c)(h2:x.f=y.f)(h3:x.n=y.n):x=y:=by
 cases x;cases y;simp_all
theorem FT.le_trans{x y z:FT}(h:x.le y)(k:y.le z):x.le z:=by
 unfold FT.le at *;omega
theorem FT.le_total(x y:FT):x.le y\/y.le x:=by
 unfold FT.le;omega
theorem FT.le_refl(x:FT):x.le x:=by
 unfold FT.le;omega
theorem Least.congr{P Q:FT->Prop}{x:FT}(h:Least P x)(e:∀y,P y↔Q y):Least Q x:=by
 rcases h with⟨rfl,h⟩|⟨h0,h1,h2⟩
 ·exact .inl ⟨rfl,fun y hy=>h y ((e y).2 hy)⟩
 ·exact .inr ⟨h0,(e _).1 h1,fun y hy=>h2 y ((e y).2 hy)⟩
theorem Least.none{P:FT->Prop}(h:Least P oI):∀y,¬P y:=by
 rcases h with⟨_,h⟩|⟨h0,_,_⟩
 ·exact h
 ·exact absurd h0 (by decide)
theorem Least.zero{P:FT->Prop}(h:∀y,¬P y):Least P oI:=.inl ⟨rfl,h⟩
theorem Least.nil{P:FT->Prop}{x:FT}(h:Least P x)(h0:x.c=0):x=oI:=by
 rcases h with⟨rfl,_⟩|⟨h1,_,_⟩
 ·rfl
 ·omega
theorem Least.behind{P Q:FT->Prop}{x:FT}(h:∀y,¬P y)(k:Least Q x):Least (fun y=>P y\/Q y) x:=
 k.congr fun y=>⟨.inr,fun h'=>h'.resolve_left (h y)⟩
theorem Least.ahead{P Q:FT->Prop}{x:FT}(h:Least P x)(h0:x.c≠0)(k:∀y,Q y->x.c<y.c):Least (fun y=>P y\/Q y) x:=by
 rcases h with⟨rfl,h⟩|⟨h1,h2,h3⟩
 ·exact absurd rfl h0
 ·refine .inr ⟨h1,.inl h2,fun y hy=>?_⟩;rcases hy with hy|hy
  ·exact h3 y hy
  ·exact .inl (k y hy)
def wJ(a b:FT):FT:=if a.c=0 then b else if b.c≠0/\¬a.le b then b else a
theorem Least.first{P Q:FT->Prop}{a b:FT}(h:Least P a)(k:Least Q b):Least (fun y=>P y\/Q y) (wJ a b):=by
 unfold wJ;rcases h with⟨rfl,h⟩|⟨h0,h1,h2⟩
 ·rw[aO rfl];exact Least.behind h k
 ·rw[au (by omega)];rcases k with⟨rfl,k⟩|⟨k0,k1,k2⟩
  ·rw[au (by simp)];refine .inr ⟨h0,.inl h1,fun y hy=>?_⟩;rcases hy with hy|hy
   ·exact h2 y hy
   ·exact absurd hy (k y)
  ·by_cases e:a.le b
   ·rw[au (fun h=>h.2 e)];refine .inr ⟨h0,.inl h1,fun y hy=>?_⟩;rcases hy with hy|hy
    ·exact h2 y hy
    ·exact FT.le_trans e (k2 y hy)
   ·rw[aO ⟨by omega,e⟩];refine .inr ⟨k0,.inr k1,fun y hy=>?_⟩;rcases hy with hy|hy
    ·exact FT.le_trans ((FT.le_total a b).resolve_left e) (h2 y hy)
    ·exact k2 y hy
theorem Least.one{b:FT}(h:0<b.c):Least (fun y=>y=b) b:=.inr ⟨h,rfl,fun y hy=>by rw[hy];exact FT.le_refl _⟩
theorem Least.note{P:FT->Prop}{a b:FT}(h:Least P a)(h0:0<b.c):Least (fun y=>P y\/y=b) (wJ a b):=h.first (Least.one h0)
noncomputable def dB(p:Prop):Bool:=@decide p (Classical.propDecidable p)
theorem pU{p:Prop}(h:p):dB p=true:=by unfold dB;exact @decide_eq_true p (Classical.propDecidable p) h
theorem q30{p:Prop}(h:¬p):dB p=false:=by unfold dB;exact @decide_eq_false p (Classical.propDecidable p) h
theorem C9{p:Prop}:dB p=true↔p:=
 ⟨fun h=>bG fun k=>Bool.noConfusion ((q30 k).symm.trans h),pU⟩
def BG(a:ND)(v:Int):Prop:=∃b,b<a.rn/\a.r b=v
def CW(nd:Nat->ND)(p j:Nat)(v:Int):Prop:=
 ((nd p).k=1/\∃i,i<j/\(nd ((nd p).c i).toNat).k=2/\BG (nd ((nd p).c i).toNat) v)
 \/(((nd p).k=7\/(nd p).k=8\/(nd p).k=12)/\j+1=(nd p).kn/\BG (nd p) v)
inductive vX(nd:Nat->ND)(n:Nat)(v:Int):Nat->Prop
 |here (x p j:Nat) (h:rZ nd n p j x) (h':CW nd p j v):vX nd n v x
 |up (x p j:Nat) (h:rZ nd n p j x) (h':vX nd n v p):vX nd n v x
inductive yI(nd:Nat->ND)(n:Nat):Nat->Prop
 |here (x p j:Nat) (h:rZ nd n p j x) (h':((nd p).k=6\/(nd p).k=7\/(nd p).k=8)/\j+1=(nd p).kn):yI nd n x
 |up (x p j:Nat) (h:rZ nd n p j x) (h':yI nd n p):yI nd n x
theorem jw.same{nd:Nat->ND}{n:Nat}(h:jw nd n){x p j p' j':Nat}(h1:rZ nd n p j x)(h2:rZ nd n p' j' x):p'=p/\j'=j:=by
 have hc:=h.kids p h1.1 j h1.2.1;have h1':=h1.2.2;have hp:=h1.1;obtain⟨q,i,_,_,_,h4⟩:=h.up (x:=x) (by omega);have a:=h4 p j h1;have b:=h4 p' j' h2;omega
theorem jw.Ew{nd:Nat->ND}{n:Nat}(h:jw nd n){p j:Nat}(h1:rZ nd n p j (n-1)):False:=by
 have hc:=h.kids p h1.1 j h1.2.1;have h1':=h1.2.2;have hp:=h1.1;omega
theorem vX.iff{nd:Nat->ND}{n:Nat}(h:jw nd n){v:Int}{x p j:Nat}(hk:rZ nd n p j x):vX nd n v x↔(CW nd p j v\/vX nd n v p):=by
 constructor
 ·intro hv
  cases hv with
  |here _ p' j' h1 h2=>obtain⟨rfl,rfl⟩:=h.same hk h1;exact .inl h2
  |up _ p' j' h1 h2=>obtain⟨rfl,rfl⟩:=h.same hk h1;exact .inr h2
 ·rintro(h1|h1)
  ·exact .here x p j hk h1
  ·exact .up x p j hk h1
theorem vX.root{nd:Nat->ND}{n:Nat}(h:jw nd n){v:Int}:¬vX nd n v (n-1):=by
 intro hv
 cases hv with
 |here _ p' j' h1 h2=>exact h.Ew h1
 |up _ p' j' h1 h2=>exact h.Ew h1
theorem yI.iff{nd:Nat->ND}{n:Nat}(h:jw nd n){x p j:Nat}(hk:rZ nd n p j x):yI nd n x↔(((nd p).k=6\/(nd p).k=7\/(nd p).k=8)/\j+1=(nd p).kn)\/yI nd n p:=by
 constructor
 ·intro hv
  cases hv with
  |here _ p' j' h1 h2=>obtain⟨rfl,rfl⟩:=h.same hk h1;exact .inl h2
  |up _ p' j' h1 h2=>obtain⟨rfl,rfl⟩:=h.same hk h1;exact .inr h2
 ·rintro(h1|h1)
  ·exact .here x p j hk h1
  ·exact .up x p j hk h1
theorem yI.root{nd:Nat->ND}{n:Nat}(h:jw nd n):¬yI nd n (n-1):=by
 intro hv
 cases hv with
 |here _ p' j' h1 h2=>exact h.Ew h1
 |up _ p' j' h1 h2=>exact h.Ew h1
def Scoped(d:FD)(x:Nat)(v:Int):Prop:=v<d.params\/vX d.nd d.nn v x
def rY(k:Int):Prop:=k=2\/k=7\/k=8\/k=12
def pR(d:FD)(x j:Nat)(v:Int):Prop:=v<d.params\/(∃m,m<x/\rY (d.nd m).k/\BG (d.nd m) v)\/∃b,b<j/\(d.nd x).r b=v
def lI(v:Int)(n:Nat):Prop:=0<=v/\v<n
def ja8(u:UD)(f x:Nat):Prop:=
 ((((u.fn f).nd x).k=27->lI (((u.fn f).nd x).r 0) (u.fn f).un))
 /\((((u.fn f).nd x).k=36->lI (((u.fn f).nd x).r 0) u.n))
 /\((((u.fn f).nd x).k=26->lI (((u.fn f).nd x).r 0) (u.fn f).vn/\Scoped (u.fn f) x (((u.fn f).nd x).r 0)))
 /\(rY ((u.fn f).nd x).k->∀j,j<((u.fn f).nd x).rn->lI (((u.fn f).nd x).r j) (u.fn f).vn/\¬pR (u.fn f) x j (((u.fn f).nd x).r j))
def Rq(u:UD)(f x g:Nat):Prop:=∀i,i<(u.fn g).un->
 ((((u.fn g).u i).loc=true->lI ((u.fn g).u i).ix (u.fn f).vn/\Scoped (u.fn f) x ((u.fn g).u i).ix)
 /\(((u.fn g).u i).loc=false->lI ((u.fn g).u i).ix (u.fn f).un))
def KW(u:UD)(f x:Nat)(g:Int):Prop:=f<u.n/\x<(u.fn f).nn/\((u.fn f).nd x).k=36/\((u.fn f).nd x).r 0=g
def tJ(u:UD)(f x:Nat)(g:Int):Prop:=∃f' x',(f'<f\/f'=f/\x'<x)/\KW u f' x' g
def qc6(d:FD)(x:Nat):Prop:=((d.nd x).k=9\/(d.nd x).k=10)/\¬yI d.nd d.nn x
def qc5(u:UD)(f x:Nat):Prop:=
 (((u.fn f).nd x).k=37/\(u.fn f).rest=false)
 \/(((u.fn f).nd x).k=36/\lI (((u.fn f).nd x).r 0) u.n/\((((u.fn f).nd x).r 0)<=f\/¬Rq u f x (((u.fn f).nd x).r 0).toNat))
def yU(u:UD)(f x:Nat):Prop:=((u.fn f).nd x).k=36/\lI (((u.fn f).nd x).r 0) u.n/\tJ u f x (((u.fn f).nd x).r 0)
def Z7(u:UD)(y:FT):Prop:=y.c=6/\y.f<u.n/\y.n<(u.fn y.f).nn/\¬ja8 u y.f y.n
def Z5(u:UD)(y:FT):Prop:=y.c=7/\y.f<u.n/\y.n<(u.fn y.f).nn/\qc6 (u.fn y.f) y.n
def Z4(u:UD)(y:FT):Prop:=y.c=8/\y.f<u.n/\y.n<(u.fn y.f).nn/\(qc5 u y.f y.n\/yU u y.f y.n)
def QB(u:UD)(y:FT):Prop:=y.c=9/\y.n=0/\1<=y.f/\y.f<u.n/\¬∃f' x',KW u f' x' y.f
def Ai(u:UD)(y:FT):Prop:=Z7 u y\/Z5 u y\/Z4 u y\/QB u y
def xK(a:ND)(vn:Nat):List Int:=((List.range a.rn).map a.r).filter (fun v=>decide (0<=v) && decide (v<vn))
theorem UM{a:ND}{vn:Nat}{v:Int}:v∈xK a vn↔BG a v/\lI v vn:=by
 unfold xK BG lI;simp only[List.mem_filter,List.mem_map,dY,aY,decide_eq_true_eq]
def sD(nd:Nat->ND)(vn p:Nat):Nat->List Int
 |0=>[]
 |j+1=>sD nd vn p j++(if(nd ((nd p).c j).toNat).k=2 then xK (nd ((nd p).c j).toNat) vn else[])
theorem Zo{nd:Nat->ND}{vn p:Nat}{v:Int}:∀j,v∈sD nd vn p j↔(∃i,i<j/\(nd ((nd p).c i).toNat).k=2/\BG (nd ((nd p).c i).toNat) v)/\lI v vn
 |0=>by unfold sD;simp
 |j+1=>by
  unfold sD;rw[dD,Zo j];constructor
  ·rintro(⟨⟨i,h1,h2⟩,h3⟩|h)
   ·exact⟨⟨i,by omega,h2⟩,h3⟩
   ·by_cases e:(nd ((nd p).c j).toNat).k=2
    ·rw[aO e,UM] at h;exact⟨⟨j,by omega,e,h.1⟩,h.2⟩
    ·rw[au e] at h
     cases h
  ·rintro⟨⟨i,h1,h2,h3⟩,h4⟩;by_cases e:i=j
   ·subst e;rw[aO h2,UM];exact .inr ⟨h3,h4⟩
   ·exact .inl ⟨⟨i,by omega,h2,h3⟩,h4⟩
def ji(d:FD)(x:Nat)(st:List Int):Prop:=∀v,lI v d.vn->(v∈st↔Scoped d x v)
theorem ji.block{d:FD}(h:jw d.nd d.nn){p j y:Nat}(hk:rZ d.nd d.nn p j y)(e:(d.nd p).k=1){st:List Int}(hs:ji d p st):ji d y (st++sD d.nd d.vn p j):=fun v hv=>by
 have:=hs v hv;unfold Scoped at this ⊢;rw[vX.iff h hk,dD,Zo,this];unfold CW;constructor
 ·rintro((h1|h1)|⟨h1,_⟩)
  ·exact .inl h1
  ·exact .inr (.inr h1)
  ·exact .inr (.inl (.inl ⟨e,h1⟩))
 ·rintro(h1|(h1|h1)|h1)
  ·exact .inl (.inl h1)
  ·exact .inr ⟨h1.2,hv⟩
  ·omega
  ·exact .inl (.inr h1)
theorem ji.plain{d:FD}(h:jw d.nd d.nn){p j y:Nat}(hk:rZ d.nd d.nn p j y)(e:(d.nd p).k≠1)(e':((d.nd p).k=7\/(d.nd p).k=8\/(d.nd p).k=12)->j+1≠(d.nd p).kn){st:List Int}(hs:ji d p st):ji d y st:=fun v hv=>by
 have:=hs v hv;unfold Scoped at this ⊢;rw[vX.iff h hk,this];unfold CW;constructor
 ·rintro(h1|h1)
  ·exact .inl h1
  ·exact .inr (.inr h1)
 ·rintro(h1|(h1|h1)|h1)
  ·exact .inl h1
  ·exact absurd h1.1 e
  ·exact absurd h1.2.1 (e' h1.1)
  ·exact .inr h1
theorem ji.last{d:FD}(h:jw d.nd d.nn){p j y:Nat}(hk:rZ d.nd d.nn p j y)(e:(d.nd p).k=7\/(d.nd p).k=8\/(d.nd p).k=12)(e':j+1=(d.nd p).kn){st:List Int}(hs:ji d p st):ji d y (st++xK (d.nd p) d.vn):=fun v hv=>by
 have:=hs v hv;unfold Scoped at this ⊢;rw[vX.iff h hk,dD,UM,this];unfold CW;constructor
 ·rintro((h1|h1)|⟨h1,_⟩)
  ·exact .inl h1
  ·exact .inr (.inr h1)
  ·exact .inr (.inl (.inr ⟨e,e',h1⟩))
 ·rintro(h1|(h1|h1)|h1)
  ·exact .inl (.inl h1)
  ·omega
  ·exact .inr ⟨h1.2.2,hv⟩
  ·exact .inl (.inr h1)
def yS(n:Nat):List Int:=(List.range n).map fun(i:Nat)=>(i:Int)
theorem ji.root{d:FD}(h:jw d.nd d.nn){n:Nat}(hp:d.params=n):ji d (d.nn-1) (yS n):=fun v hv=>by
 unfold Scoped yS;simp only[List.mem_map,dY];constructor
 ·rintro⟨i,h1,rfl⟩;exact .inl (by omega)
 ·rintro(h1|h1)
  ·exact⟨v.toNat,by have:=hv.1;omega,by have:=hv.1;omega⟩
  ·exact absurd h1 (vX.root h)
def oD(u:UD)(f x:Nat)(y:FT):Prop:=y.f=f/\y.n=x/\
 ((y.c=6/\((((u.fn f).nd x).k=26/\¬(lI (((u.fn f).nd x).r 0) (u.fn f).vn/\Scoped (u.fn f) x (((u.fn f).nd x).r 0)))
   \/(((u.fn f).nd x).k=27/\¬lI (((u.fn f).nd x).r 0) (u.fn f).un)
   \/(((u.fn f).nd x).k=36/\¬lI (((u.fn f).nd x).r 0) u.n)))
  \/(y.c=7/\qc6 (u.fn f) x)\/(y.c=8/\qc5 u f x))
def Hu(u:UD)(f x:Nat)(y:FT):Prop:=y.c=6/\y.f=f/\y.n=x/\rY ((u.fn f).nd x).k/\∃j,j<((u.fn f).nd x).rn/\¬(lI (((u.fn f).nd x).r j) (u.fn f).vn/\¬pR (u.fn f) x j (((u.fn f).nd x).r j))
def z22(u:UD)(f:Nat)(y:FT):Prop:=∃x,x<(u.fn f).nn/\(oD u f x y\/Hu u f x y)
def z21(u:UD)(y:FT):Prop:=(y.c=8/\y.f<u.n/\y.n<(u.fn y.f).nn/\yU u y.f y.n)\/QB u y
theorem y99(u:UD)(y:FT):((∃f,f<u.n/\z22 u f y)\/z21 u y)↔Ai u y:=by
 constructor
 ·rintro(⟨f,hf,x,hx,h|h⟩|h|h)
  ·obtain⟨rfl,rfl,h⟩:=h;rcases h with⟨h0,h⟩|⟨h0,h⟩|⟨h0,h⟩
   ·refine .inl ⟨h0,hf,hx,fun hr=>?_⟩;rcases h with⟨h1,h2⟩|⟨h1,h2⟩|⟨h1,h2⟩
    ·exact h2 (hr.2.2.1 h1)
    ·exact h2 (hr.1 h1)
    ·exact h2 (hr.2.1 h1)
   ·exact .inr (.inl ⟨h0,hf,hx,h⟩)
   ·exact .inr (.inr (.inl ⟨h0,hf,hx,.inl h⟩))
  ·obtain⟨h0,rfl,rfl,h1,j,hj,h2⟩:=h;exact .inl ⟨h0,hf,hx,fun hr=>h2 (hr.2.2.2 h1 j hj)⟩
  ·exact .inr (.inr (.inl ⟨h.1,h.2.1,h.2.2.1,.inr h.2.2.2⟩))
  ·exact .inr (.inr (.inr h))
 ·rintro(⟨h0,hf,hx,h⟩|⟨h0,hf,hx,h⟩|⟨h0,hf,hx,h|h⟩|h)
  ·refine bG fun hn=>h ?_;have hA:¬oD u y.f y.n y:=fun h=>hn (.inl ⟨_,hf,_,hx,.inl h⟩);have hD:¬Hu u y.f y.n y:=fun h=>hn (.inl ⟨_,hf,_,hx,.inr h⟩);refine⟨fun h1=>bG fun h2=>hA ⟨rfl,rfl,.inl ⟨h0,.inr (.inl ⟨h1,h2⟩)⟩⟩,fun h1=>bG fun h2=>hA ⟨rfl,rfl,.inl ⟨h0,.inr (.inr ⟨h1,h2⟩)⟩⟩,fun h1=>bG fun h2=>hA ⟨rfl,rfl,.inl ⟨h0,.inl ⟨h1,h2⟩⟩⟩,fun h1 j hj=>bG fun h2=>hD ⟨h0,rfl,rfl,h1,j,hj,h2⟩⟩
  ·exact .inl ⟨_,hf,_,hx,.inl ⟨rfl,rfl,.inr (.inl ⟨h0,h⟩)⟩⟩
  ·exact .inl ⟨_,hf,_,hx,.inl ⟨rfl,rfl,.inr (.inr ⟨h0,h⟩)⟩⟩
  ·exact .inr (.inl ⟨h0,hf,hx,h⟩)
  ·exact .inr (.inr h)
def nX(u:UD)(f x:Nat)(y:FT):Prop:=∃z,Sub (u.fn f).nd x z/\oD u f z y
def uO(u:UD)(f x j:Nat)(y:FT):Prop:=∃i c:Nat,i<j/\((u.fn f).nd x).c i=(c:Int)/\nX u f c y
theorem Ld(u:UD)(f x:Nat)(y:FT):nX u f x y↔uO u f x ((u.fn f).nd x).kn y\/oD u f x y:=by
 constructor
 ·rintro⟨z,h,h2⟩
  cases h with
  |self=>exact .inr h2
  |kid _ j c _ hj hc h3=>exact .inl ⟨j,c,hj,hc,z,h3,h2⟩
 ·rintro(⟨i,c,h1,h2,z,h3,h4⟩|h)
  ·exact⟨z,.kid x i c z h1 h2 h3,h4⟩
  ·exact⟨x,.self x,h⟩
theorem VZ(u:UD)(f x:Nat)(y:FT):¬uO u f x 0 y:=by rintro⟨i,c,h1,_⟩;omega
theorem O1(u:UD)(f x j c:Nat)(hc:((u.fn f).nd x).c j=(c:Int))(y:FT):uO u f x (j+1) y↔uO u f x j y\/nX u f c y:=by
 constructor
 ·rintro⟨i,c',h1,h2,h3⟩;by_cases e:i=j
  ·subst e;have:c'=c:=by omega
   subst this;exact .inr h3
  ·exact .inl ⟨i,c',by omega,h2,h3⟩
 ·rintro(⟨i,c',h1,h2,h3⟩|h)
  ·exact⟨i,c',by omega,h2,h3⟩
  ·exact⟨j,c,by omega,hc,h⟩
theorem zz6(u:UD)(f:Nat)(h:jw (u.fn f).nd (u.fn f).nn)(y:FT):nX u f ((u.fn f).nn-1) y↔∃x,x<(u.fn f).nn/\oD u f x y:=by
 have hpos:=h.pos;constructor
 ·rintro⟨z,h1,h2⟩;refine⟨z,?_,h2⟩;have:∀p x,Sub (u.fn f).nd p x->p<(u.fn f).nn->x<(u.fn f).nn:=by
   intro p x hs
   induction hs with
   |self _=>exact id
   |kid p j c x hj hc _ ih=>exact fun hp=>ih (by have:=h.kids p hp j hj;omega)
  exact this _ _ h1 (by omega)
 ·rintro⟨x,h1,h2⟩;exact⟨x,h.all ((u.fn f).nn-1 - x) x (by omega),h2⟩
section
open Go.RowKit
attribute [local go_sem] iD
attribute [local go_sem ↓] Go.wp_at_zero Go.wp_at_succ
def tN(nd:Nat->ND)(m:Nat):Bool:=decide (0<(nd m).kn) && jL nd m ((nd m).kn-1)==1
def rG(nd:Nat->ND)(m:Nat):Bool:=
 if(nd m).k=1 then allB (fun i=>oW (jL nd m i)) 0 (nd m).kn && kY (nd m) false false false false 0
 else if(nd m).k=2 then decide (0<(nd m).rn) && kY (nd m) false false false false (nd m).rn && lD nd m 0 (nd m).kn
 else if(nd m).k=3 then !(decide ((nd m).n<1) || decide (((nd m).kn:Int)<=(nd m).n)) && allB (fun i=>KQ (jL nd m i)) 0 (nd m).n.toNat && kY (nd m) false true false false 0 && lD nd m (nd m).n.toNat (nd m).kn
 else if(nd m).k=4\/(nd m).k=14 then((nd m).kn:Int)==1 && jL nd m 0==34 && kY (nd m) false false false false 0
 else if(nd m).k=5 then(((nd m).kn:Int)==2 || ((nd m).kn:Int)==3 && (jL nd m 2==1 || jL nd m 2==5)) && lD nd m 0 1 && jL nd m 1==1 && kY (nd m) false false false false 0
 else if(nd m).k=6 then((nd m).kn:Int)==2 && lD nd m 0 1 && tN nd m && kY (nd m) false false false false 0
 else if(nd m).k=7 then((nd m).kn:Int)==4 && lD nd m 0 3 && tN nd m && kY (nd m) false false false false 1
 else if(nd m).k=8 then((nd m).kn:Int)==2 && decide ((1:Int)<=(nd m).rn) && decide (((nd m).rn:Int)<=4) && lD nd m 0 1 && tN nd m && kY (nd m) false false false false (nd m).rn
 else if(nd m).k=9\/(nd m).k=10 then((nd m).kn:Int)==0 && kY (nd m) false false false false 0
 else if(nd m).k=11 then lD nd m 0 (nd m).kn && kY (nd m) false false false false 0
 else if(nd m).k=12 then((nd m).kn:Int)==2 && jL nd m 0==1 && tN nd m && kY (nd m) false false false false 2
 else if(nd m).k=13 then((nd m).kn:Int)==1 && lD nd m 0 1 && kY (nd m) false false false false 0
 else false
def Lp(f:Nat):Bool:=FloatKind.f64.format.order f f==some .eq
def yB(nd:Nat->ND)(m:Nat):Bool:=
 if(nd m).k=20\/(nd m).k=21\/(nd m).k=22\/(nd m).k=37 then((nd m).kn:Int)==0 && kY (nd m) false false false false 0
 else if(nd m).k=23 then((nd m).kn:Int)==0 && kY (nd m) false true false false 0
 else if(nd m).k=24 then((nd m).kn:Int)==0 && Lp (nd m).f && kY (nd m) false false true false 0
 else if(nd m).k=25 then((nd m).kn:Int)==0 && decide (((nd m).s.size:Int)<=4000) && kY (nd m) false false false true 0
 else if(nd m).k=26\/(nd m).k=27\/(nd m).k=36 then((nd m).kn:Int)==0 && kY (nd m) false false false false 1
 else if(nd m).k=28 then((nd m).kn:Int)==0 && decide (0<=(nd m).n) && decide ((nd m).n<15) && kY (nd m) false true false false 0
 else if(nd m).k=29\/(nd m).k=30\/(nd m).k=33 then((nd m).kn:Int)==2 && lD nd m 0 (nd m).kn && kY (nd m) false false false false 0
 else if(nd m).k=31 then((nd m).kn:Int)==1 && lD nd m 0 (nd m).kn && decide (19<=(nd m).o) && decide ((nd m).o<=22) && kY (nd m) true false false false 0
 else if(nd m).k=32 then((nd m).kn:Int)==2 && lD nd m 0 (nd m).kn && decide (1<=(nd m).o) && decide ((nd m).o<=18) && kY (nd m) true false false false 0
 else if(nd m).k=34 then decide ((1:Int)<=(nd m).kn) && lD nd m 0 (nd m).kn && kY (nd m) false false false false 0
 else if(nd m).k=35 then((nd m).kn:Int)%2==0 && lD nd m 0 (nd m).kn && ((nd m).o==0 || (nd m).o==1 && decide ((2:Int)<=(nd m).kn) && jL nd m ((nd m).kn-2)==23 && Lr (jL nd m ((nd m).kn-1))) && kY (nd m) true false false false 0
 else if(nd m).k=38 then((nd m).kn:Int)==1 && Lr (jL nd m 0) && kY (nd m) false false false false 0
 else false
def qm(nd:Nat->ND)(m:Nat):Bool:=
 !decide ((200:Int)<(nd m).kn) && allB (fun i=>!(decide ((nd m).c i<0) || decide ((m:Int)<=(nd m).c i))) 0 (nd m).kn &&
  (if oW (nd m).k then decide (1<=(nd m).l) && decide ((nd m).l<=100000) && rG nd m else(nd m).l==0 && yB nd m)
end
theorem wM{d:ND}{o n f s:Bool}{r:Int}(h:kY d o n f s r=true):(d.rn:Int)=r:=by
 unfold kY Hy at h;simp only[aY,beq_iff_eq] at h;exact h.2
theorem qc3{nd:Nat->ND}{m lo hi i:Nat}(h:lD nd m lo hi=true)(h1:lo<=i)(h2:i<hi):mM (jL nd m i)=true:=iw.1 h i h1 h2
theorem qc4{k:Int}(h:mM k=true):k≠2:=by
 unfold mM at h;simp at h;omega
theorem yx3{nd:Nat->ND}{m:Nat}(h:qm nd m=true):(nd m).kn<=200/\∀j,j<(nd m).kn->0<=(nd m).c j/\(nd m).c j<m:=by
 unfold qm at h;simp only[aY] at h;obtain⟨⟨h1,h2⟩,_⟩:=h;refine⟨by simp at h1;omega,fun j hj=>?_⟩;have:=iw.1 h2 j (aF _) hj;simp at this;omega
theorem yz6{nd:Nat->ND}{m j:Nat}(h:∀j,j<(nd m).kn->0<=(nd m).c j/\(nd m).c j<m)(hj:j<(nd m).kn):jL nd m j=(nd ((nd m).c j).toNat).k:=by
 unfold jL;rw[aO hj,aO (h j hj)]
structure Yn(nd:Nat->ND)(m:Nat):Prop where
 kids:∀j,j<(nd m).kn->0<=(nd m).c j/\(nd m).c j<m
 kn:(nd m).kn<=200
 kind:(1<=(nd m).k/\(nd m).k<=14)\/(20<=(nd m).k/\(nd m).k<=38)
 one:(nd m).k=26\/(nd m).k=27\/(nd m).k=36\/(nd m).k=7->(nd m).rn=1
 a03:(nd m).k=12->(nd m).rn=2
 refs:(nd m).rn≠0->(nd m).k=2\/(nd m).k=7\/(nd m).k=8\/(nd m).k=12\/(nd m).k=26\/(nd m).k=27\/(nd m).k=36
 two:(nd m).k=6\/(nd m).k=8\/(nd m).k=12->(nd m).kn=2
 four:(nd m).k=7->(nd m).kn=4
 leaf:(nd m).k=9\/(nd m).k=10\/(nd m).k=26\/(nd m).k=27\/(nd m).k=36\/(nd m).k=37->(nd m).kn=0
 lets:(nd m).k≠1->∀j,j<(nd m).kn->(nd ((nd m).c j).toNat).k≠2
theorem QW{nd:Nat->ND}{m:Nat}(h:tN nd m=true){j:Nat}(hj:j+1=(nd m).kn):jL nd m j≠2:=by
 unfold tN at h;simp only[aY,beq_iff_eq] at h;have:(nd m).kn-1=j:=by omega
 rw[this] at h;omega
theorem yi5{nd:Nat->ND}{m:Nat}(h:qm nd m=true):Yn nd m:=by
 obtain⟨fE,hk⟩:=yx3 h;have hke:∀j,j<(nd m).kn->jL nd m j=(nd ((nd m).c j).toNat).k:=fun j hj=>yz6 hk hj;have h3:(if oW (nd m).k then decide (1<=(nd m).l) && decide ((nd m).l<=100000) && rG nd m else(nd m).l==0 && yB nd m)=true:=by
  unfold qm at h;rw[aY] at h;exact h.2
 by_cases hs:oW (nd m).k=true
 ·rw[aO hs,aY] at h3;have h:=h3.2;have hr:1<=(nd m).k/\(nd m).k<=14:=by unfold oW at hs;simp at hs;exact hs
  unfold rG at h;rcases(show(nd m).k=1\/(nd m).k=2\/(nd m).k=3\/(nd m).k=4\/(nd m).k=5\/(nd m).k=6\/(nd m).k=7\/(nd m).k=8\/(nd m).k=9\/(nd m).k=10\/(nd m).k=11\/(nd m).k=12\/(nd m).k=13\/(nd m).k=14 by omega) with e|e|e|e|e|e|e|e|e|e|e|e|e|e<;>(simp only[e] at h;simp only[Int.reduceEq,if_true,if_false,aY,Bool.or_eq_true,or_false,or_true,beq_iff_eq] at h)
  ·have b:=wM h.2;exact⟨hk,fE,.inl hr,fun h=>by omega,fun h=>by omega,fun h=>by omega,fun h=>by omega,fun h=>by omega,fun h=>by omega,fun h=>absurd e h⟩
  ·exact⟨hk,fE,.inl hr,fun h=>by omega,fun h=>by omega,fun h=>by omega,fun h=>by omega,fun h=>by omega,fun h=>by omega,fun _ j hj=>by rw[<-hke j hj];exact qc4 (qc3 h.2 (aF _) hj)⟩
  ·have b:=wM h.1.2;refine⟨hk,fE,.inl hr,fun h=>by omega,fun h=>by omega,fun h=>by omega,fun h=>by omega,fun h=>by omega,fun h=>by omega,fun _ j hj=>?_⟩;rw[<-hke j hj];by_cases hj2:j<(nd m).n.toNat
   ·have:=iw.1 h.1.1.2 j (aF _) hj2;unfold KQ at this;simp at this;omega
   ·exact qc4 (qc3 h.2 (by omega) hj)
  ·have b:=wM h.2;refine⟨hk,fE,.inl hr,fun h=>by omega,fun h=>by omega,fun h=>by omega,fun h=>by omega,fun h=>by omega,fun h=>by omega,fun _ j hj=>?_⟩;obtain rfl:j=0:=by omega
   rw[<-hke 0 hj];omega
  ·have b:=wM h.2;refine⟨hk,fE,.inl hr,fun h=>by omega,fun h=>by omega,fun h=>by omega,fun h=>by omega,fun h=>by omega,fun h=>by omega,fun _ j hj=>?_⟩;rw[<-hke j hj];have h0:=qc4 (qc3 (i:=0) h.1.1.2 (aF _) (by omega));rcases(show j=0\/j=1\/j=2 by omega) with rfl|rfl|rfl
   ·exact h0
   ·omega
   ·omega
  ·have b:=wM h.2;refine⟨hk,fE,.inl hr,fun h=>by omega,fun h=>by omega,fun h=>by omega,fun h=>by omega,fun h=>by omega,fun h=>by omega,fun _ j hj=>?_⟩;rw[<-hke j hj];rcases(show j=0\/j+1=(nd m).kn by omega) with rfl|hj2
   ·exact qc4 (qc3 (i:=0) h.1.1.2 (aF _) (by omega))
   ·exact QW h.1.2 hj2
  ·have b:=wM h.2;refine⟨hk,fE,.inl hr,fun h=>by omega,fun h=>by omega,fun h=>by omega,fun h=>by omega,fun h=>by omega,fun h=>by omega,fun _ j hj=>?_⟩;rw[<-hke j hj];rcases(show j<3\/j+1=(nd m).kn by omega) with hj2|hj2
   ·exact qc4 (qc3 h.1.1.2 (aF _) hj2)
   ·exact QW h.1.2 hj2
  ·have b:=wM h.2;refine⟨hk,fE,.inl hr,fun h=>by omega,fun h=>by omega,fun h=>by omega,fun h=>by omega,fun h=>by omega,fun h=>by omega,fun _ j hj=>?_⟩;rw[<-hke j hj];rcases(show j=0\/j+1=(nd m).kn by omega) with rfl|hj2
   ·exact qc4 (qc3 (i:=0) h.1.1.2 (aF _) (by omega))
   ·exact QW h.1.2 hj2
  ·have b:=wM h.2;exact⟨hk,fE,.inl hr,fun h=>by omega,fun h=>by omega,fun h=>by omega,fun h=>by omega,fun h=>by omega,fun h=>by omega,fun _ j hj=>by omega⟩
  ·have b:=wM h.2;exact⟨hk,fE,.inl hr,fun h=>by omega,fun h=>by omega,fun h=>by omega,fun h=>by omega,fun h=>by omega,fun h=>by omega,fun _ j hj=>by omega⟩
  ·have b:=wM h.2;exact⟨hk,fE,.inl hr,fun h=>by omega,fun h=>by omega,fun h=>by omega,fun h=>by omega,fun h=>by omega,fun h=>by omega,fun _ j hj=>by rw[<-hke j hj];exact qc4 (qc3 h.1 (aF _) hj)⟩
  ·have b:=wM h.2;refine⟨hk,fE,.inl hr,fun h=>by omega,fun h=>by omega,fun h=>by omega,fun h=>by omega,fun h=>by omega,fun h=>by omega,fun _ j hj=>?_⟩;rw[<-hke j hj];rcases(show j=0\/j+1=(nd m).kn by omega) with rfl|hj2
   ·omega
   ·exact QW h.1.2 hj2
  ·have b:=wM h.2;refine⟨hk,fE,.inl hr,fun h=>by omega,fun h=>by omega,fun h=>by omega,fun h=>by omega,fun h=>by omega,fun h=>by omega,fun _ j hj=>?_⟩;rw[<-hke j hj];exact qc4 (qc3 h.1.2 (aF _) (by omega))
  ·have b:=wM h.2;refine⟨hk,fE,.inl hr,fun h=>by omega,fun h=>by omega,fun h=>by omega,fun h=>by omega,fun h=>by omega,fun h=>by omega,fun _ j hj=>?_⟩;obtain rfl:j=0:=by omega
   rw[<-hke 0 hj];omega
 ·rw[au hs,aY] at h3;have h:=h3.2;unfold yB at h;have hr:20<=(nd m).k/\(nd m).k<=38:=by
   refine bG fun hn=>?_;have hf:∀{p:Prop} [Decidable p] {a b:Bool},¬p->(if p then a else b)=true->b=true:=fun hp h=>by rwa [au hp] at h
   exact absurd (hf (by omega) (hf (by omega) (hf (by omega) (hf (by omega) (hf (by omega) (hf (by omega) (hf (by omega) (hf (by omega) (hf (by omega) (hf (by omega) (hf (by omega) (hf (by omega) h)))))))))))) (by decide)
  rcases(show(nd m).k=20\/(nd m).k=21\/(nd m).k=22\/(nd m).k=23\/(nd m).k=24\/(nd m).k=25\/(nd m).k=26\/(nd m).k=27\/(nd m).k=28\/(nd m).k=29\/(nd m).k=30\/(nd m).k=31\/(nd m).k=32\/(nd m).k=33\/(nd m).k=34\/(nd m).k=35\/(nd m).k=36\/(nd m).k=37\/(nd m).k=38 by omega) with e|e|e|e|e|e|e|e|e|e|e|e|e|e|e|e|e|e|e<;>(simp only[e] at h;simp only[Int.reduceEq,if_true,if_false,aY,or_false,or_true,beq_iff_eq] at h)
  all_goals
   have b:=wM h.2;refine⟨hk,fE,.inr hr,fun h=>by omega,fun h=>by omega,fun h=>by omega,fun h=>by omega,fun h=>by omega,fun h=>by omega,fun _ j hj=>?_⟩
  all_goals first
   |omega
   |(rw[<-hke j hj];exact qc4 (qc3 h.1.2 (aF _) hj))
   |(rw[<-hke j hj];exact qc4 (qc3 h.1.1.2 (aF _) hj))
   |(rw[<-hke j hj];exact qc4 (qc3 h.1.1.1.2 (aF _) hj))
   |(obtain rfl:j=0:=by omega
     rw[<-hke 0 hj];have h1:=h.1.2;unfold Lr at h1;simp at h1;omega)
def At2(C U:Nat)(N:Nat->Nat)(bad:Nat->Nat->Prop)(y:FT):Prop:=y.c=C/\y.f<U/\y.n<N y.f/\bad y.f y.n
theorem At2.least{C U:Nat}{N:Nat->Nat}{bad:Nat->Nat->Prop}{f n:Nat}(hC:0<C)(h1:∀f',f'<f->∀n',n'<N f'->¬bad f' n')(h2:∀n',n'<n->¬bad f n')(hf:f<U)(hn:n<N f)(hb:bad f n):Least (At2 C U N bad) ⟨C,f,n⟩:=by
 refine .inr ⟨hC,⟨rfl,hf,hn,hb⟩,fun y hy=>?_⟩;obtain⟨a,b,c,d⟩:=hy;refine .inr ⟨a.symm,?_⟩;by_cases e:y.f<f
 ·exact absurd d (h1 _ e _ c)
 ·by_cases e2:y.f=f
  ·refine .inr ⟨e2.symm,?_⟩;by_cases e3:y.n<n
   ·rw[e2] at d;exact absurd d (h2 _ e3)
   ·exact Nat.le_of_not_lt e3
  ·exact .inl (by show f<y.f;omega)
theorem At2.none{C U:Nat}{N:Nat->Nat}{bad:Nat->Nat->Prop}(h:∀f,f<U->∀n,n<N f->¬bad f n):∀y,¬At2 C U N bad y:=fun _ hy=>h _ hy.2.1 _ hy.2.2.1 hy.2.2.2
theorem At2.no{C U:Nat}{N:Nat->Nat}{bad:Nat->Nat->Prop}(h:∀y,¬At2 C U N bad y):∀f,f<U->∀n,n<N f->¬bad f n:=fun f hf n hn hb=>h ⟨C,f,n⟩ ⟨rfl,hf,hn,hb⟩
def tot(fn:Nat->FD):Nat->Nat
 |0=>0
 |k+1=>tot fn k+(fn k).nn
def Ea(u:UD):Prop:=1<=u.n/\u.n<=300/\tot u.fn u.n<=3000
def Dc(u:UD)(f:Nat):Prop:=((u.fn f).nn≠0/\(u.fn f).vn<=200/\(u.fn f).un<=200/\0<=(u.fn f).params/\(u.fn f).params<=(u.fn f).vn)
 /\(0<=(u.fn f).line/\(u.fn f).line<=100000/\(u.fn f).name.size<=40/\(f=0->(u.fn f).params=0/\(u.fn f).un=0))
 /\∀i,i<(u.fn f).vn->1<=((u.fn f).v i).size/\((u.fn f).v i).size<=40
def vM(u:UD):FT->Prop:=At2 1 1 (fun _=>1) (fun _ _=>¬Ea u)
def rV(u:UD):FT->Prop:=At2 2 u.n (fun _=>1) (fun f _=>¬Dc u f)
def xE(u:UD):FT->Prop:=At2 3 u.n (fun f=>(u.fn f).nn) (fun f n=>qm (u.fn f).nd n=false)
def vK(u:UD):FT->Prop:=At2 4 u.n (fun f=>(u.fn f).nn) (fun f n=>(n<(u.fn f).nn-1/\jM (u.fn f).nd (u.fn f).nn n<0)\/(n=(u.fn f).nn-1/\((u.fn f).nd n).k≠1))
def xC(u:UD):FT->Prop:=At2 5 u.n (fun f=>(u.fn f).nn) (fun f n=>100<nI (jM (u.fn f).nd (u.fn f).nn) (u.fn f).nn ((u.fn f).nn-1) n)
def oq(u:UD)(y:FT):Prop:=vM u y\/rV u y\/xE u y\/vK u y\/xC u y\/Ai u y
theorem yf1{u:UD}{y:FT}(h:Ai u y):6<=y.c:=by
 rcases h with h|h|h|h<;>(have:=h.1;omega)
structure U3(u:UD):Prop where
 size:Ea u
 head:∀f,f<u.n->Dc u f
 form:∀f,f<u.n->∀n,n<(u.fn f).nn->qm (u.fn f).nd n=true
theorem U3.facts{u:UD}(h:U3 u){f:Nat}(hf:f<u.n){n:Nat}(hn:n<(u.fn f).nn):Yn (u.fn f).nd n:=yi5 (h.form f hf n hn)
theorem U3.kids{u:UD}(h:U3 u){f:Nat}(hf:f<u.n):uh (u.fn f).nd (u.fn f).nn:=fun _ hi j hj=>(h.facts hf hi).kids j hj
theorem Va(fn:Nat->FD):∀(n k:Nat),k<n->(fn k).nn<=tot fn n
 |0,_,h=>by omega
 |n+1,k,h=>by
  unfold tot;by_cases e:k=n
  ·subst e;omega
  ·have:=Va fn n k (by omega);omega
theorem U3.nn{u:UD}(h:U3 u){f:Nat}(hf:f<u.n):(u.fn f).nn<=3000/\0<(u.fn f).nn:=by
 have h1:=Va u.fn u.n f hf;have h2:=h.size.2.2;have h3:=(h.head f hf).1.1;omega
structure U5(u:UD):Prop extends U3 u where
 tree:∀f,f<u.n->jw (u.fn f).nd (u.fn f).nn
theorem UZ{u:UD}(h1:∀y,¬vM u y)(h2:∀y,¬rV u y)(h3:∀y,¬xE u y):U3 u:=by
 refine⟨?_,fun f hf=>?_,fun f hf n hn=>?_⟩
 ·exact bG fun h=>At2.no h1 0 (by omega) 0 (by omega) h
 ·exact bG fun h=>At2.no h2 f hf 0 (by omega) h
 ·have:=At2.no h3 f hf n hn;simpa using this
theorem j41{u:UD}(h:U3 u)(h4:∀y,¬vK u y):U5 u:=by
 refine⟨h,fun f hf=>⟨(h.nn hf).2,h.kids hf,fun x hx=>?_,?_⟩⟩
 ·have:=At2.no h4 f hf x (by omega);omega
 ·have hp:=(h.nn hf).2;have:=At2.no h4 f hf ((u.fn f).nn-1) (by omega);omega
section
open Go.RowKit
attribute [local go_sem] iD
attribute [local go_sem ↓] Go.wp_at_zero Go.wp_at_succ
theorem y28{w wx:World}{q:Addr}{v:Value}(hb:gZ w wx)(h:w.cell? q=some v):wx.cell? q=some v:=by
 have hq:q.block<w.heap.size:=by
  refine Nat.lt_of_not_le fun hle=>?_;have:w.heap[q.block]?=none:=dJ hle;simp[World.cell?,this] at h
 rw[hb.cell hq];exact h
theorem jo{a w:World}(h:gZ a w)(o:Obj):gZ a (w.alloc o):=h.alloc h.size _
end
section
open Go.RowKit
attribute [local go_sem] iD
theorem QZ:(Tryz.prog.info? 3).map (fun i=>(i.zero,i.size,i.bytes))=some (some (.int .i64 0),1,8):=by kernel_rfl
end
def setB(s:Nat)(k:Int):Bool:=decide (0<=k) && Nat.testBit s k.toNat
def iK(s:Nat)(nd:Nat->ND)(m:Nat)(c:Int):Bool:=decide (0<=c) && decide (c<m) && setB s (nd c.toNat).k
abbrev vS:Nat:=2
abbrev Nr:Nat:=34
abbrev KU:Nat:=8791261184
abbrev RS:Nat:=17179869184
abbrev DZ:Nat:=154618822656
abbrev RP:Nat:=32766
abbrev lu:Nat:=549754765312
abbrev Ik:Nat:=8388608
theorem ye9{s:Nat}(h:s<2 ^ 64){k:Nat}(hk:64<=k):Nat.testBit s k=false:=
 Nat.testBit_lt_two_pow (aH h (Nat.pow_le_pow_right (by omega) hk))
theorem Ee(s:Nat)(h:s<2 ^ 64)(p:Int->Bool)(hp:∀k:Nat,k<64->Nat.testBit s k=p k)(hq:∀k:Int,p k=true->0<=k/\k<64)(k:Int):setB s k=p k:=by
 unfold setB;by_cases h0:0<=k
 ·by_cases h1:k<64
  ·obtain⟨j,rfl⟩:∃j:Nat,k=j:=⟨k.toNat,by omega⟩;rw[bV,hp j (by omega)];simp
  ·rw[ye9 h (by omega),Bool.and_false]
   cases e:p k
   ·rfl
   ·have:=hq k e;omega
 ·cases e:p k
  ·simp[h0]
  ·have:=hq k e;omega
theorem MV(k:Int):setB RP k=oW k:=Ee _ (by decide) _ (by decide) (fun k h=>by unfold oW at h;simp at h;omega) k
theorem Hz(k:Int):setB lu k=mM k:=Ee _ (by decide) _ (by decide) (fun k h=>by unfold mM at h;simp at h;omega) k
theorem j58(k:Int):setB KU k=KQ k:=Ee _ (by decide) _ (by decide) (fun k h=>by unfold KQ at h;simp at h;omega) k
theorem jc2(k:Int):setB DZ k=Lr k:=Ee _ (by decide) _ (by decide) (fun k h=>by unfold Lr at h;simp at h;omega) k
theorem jc7(k:Int):setB vS k=(k==1):=Ee _ (by decide) (·==1) (by decide) (fun k h=>by simp at h;omega) k
theorem jc4(k:Int):setB Nr k=(k==1 || k==5):=Ee _ (by decide) (fun k=>k==1 || k==5) (by decide) (fun k h=>by simp at h;omega) k
theorem jc6(k:Int):setB RS k=(k==34):=Ee _ (by decide) (·==34) (by decide) (fun k h=>by simp at h;omega) k
theorem jc3(k:Int):setB Ik k=(k==23):=Ee _ (by decide) (·==23) (by decide) (fun k h=>by simp at h;omega) k
theorem IB{s:Nat}{p:Int->Bool}(hs:∀k,setB s k=p k)(h0:p 0=false){nd:Nat->ND}{m i:Nat}(hi:i<(nd m).kn):p (jL nd m i)=iK s nd m ((nd m).c i):=by
 unfold jL iK;rw[aO hi,hs];by_cases h:0<=(nd m).c i/\(nd m).c i<m
 ·rw[aO h];simp[h.1,h.2]
 ·rw[au h,h0];by_cases h1:0<=(nd m).c i
  ·have:¬(nd m).c i<m:=fun h2=>h ⟨h1,h2⟩;simp[this]
  ·simp[h1]
theorem y32{p q:Nat->Bool}{lo hi:Nat}(h:∀i,lo<=i->i<hi->p i=q i):allB p lo hi=allB q lo hi:=by
 rw[cZ,iw,iw];exact⟨fun k i a b=>by rw[<-h i a b];exact k i a b,fun k i a b=>by rw[h i a b];exact k i a b⟩
def jQ(a:ND)(o n f s r k:Bool):Bool:=(o || a.o==0) && (n || a.n==0) && (f || fz a.f) && (s || se a.s) && (r || (a.rn:Int)==0) && (k || (a.kn:Int)==0)
def jI(s:Nat)(nd:Nat->ND)(m lo hi:Nat):Bool:=allB (fun i=>iK s nd m ((nd m).c i)) lo hi
def iM(s:Nat)(nd:Nat->ND)(m i:Nat):Bool:=iK s nd m ((nd m).c i)
def mJ(nd:Nat->ND)(m:Nat):Bool:=
 if(nd m).k=1 then jQ (nd m) false false false false false true && jI RP nd m 0 (nd m).kn
 else if(nd m).k=2 then jQ (nd m) false false false false true true && decide (0<(nd m).rn) && jI lu nd m 0 (nd m).kn
 else if(nd m).k=3 then jQ (nd m) false true false false false true && decide (0<(nd m).n) && decide ((nd m).n<(nd m).kn) && jI KU nd m 0 (nd m).n.toNat && jI lu nd m (nd m).n.toNat (nd m).kn
 else if(nd m).k=4\/(nd m).k=14 then jQ (nd m) false false false false false true && (((nd m).kn:Int)==1 && iM RS nd m 0)
 else if(nd m).k=5 then jQ (nd m) false false false false false true && (((nd m).kn:Int)==2 && iM lu nd m 0 && iM vS nd m 1 || ((nd m).kn:Int)==3 && iM lu nd m 0 && iM vS nd m 1 && iM Nr nd m 2)
 else if(nd m).k=6 then jQ (nd m) false false false false false true && (((nd m).kn:Int)==2 && iM lu nd m 0 && iM vS nd m 1)
 else if(nd m).k=7 then jQ (nd m) false false false false true true && ((nd m).rn:Int)==1 && (((nd m).kn:Int)==4 && iM lu nd m 0 && iM lu nd m 1 && iM lu nd m 2 && iM vS nd m 3)
 else if(nd m).k=8 then jQ (nd m) false false false false true true && (decide ((1:Int)<=(nd m).rn) && decide (((nd m).rn:Int)<=4)) && (((nd m).kn:Int)==2 && iM lu nd m 0 && iM vS nd m 1)
 else if(nd m).k=11 then jQ (nd m) false false false false false true && jI lu nd m 0 (nd m).kn
 else if(nd m).k=12 then jQ (nd m) false false false false true true && ((nd m).rn:Int)==2 && (((nd m).kn:Int)==2 && iM vS nd m 0 && iM vS nd m 1)
 else if(nd m).k=13 then jQ (nd m) false false false false false true && (((nd m).kn:Int)==1 && iM lu nd m 0)
 else if(nd m).k=9\/(nd m).k=10\/(nd m).k=20\/(nd m).k=21\/(nd m).k=22\/(nd m).k=37 then jQ (nd m) false false false false false false
 else if(nd m).k=23 then jQ (nd m) false true false false false false
 else if(nd m).k=24 then jQ (nd m) false false true false false false && Lp (nd m).f
 else if(nd m).k=25 then jQ (nd m) false false false true false false && decide (((nd m).s.size:Int)<=4000)
 else if(nd m).k=26\/(nd m).k=27\/(nd m).k=36 then jQ (nd m) false false false false true false && ((nd m).rn:Int)==1
 else if(nd m).k=28 then jQ (nd m) false true false false false false && decide (0<=(nd m).n) && decide ((nd m).n<15)
 else if(nd m).k=29\/(nd m).k=30\/(nd m).k=33 then jQ (nd m) false false false false false true && (((nd m).kn:Int)==2 && iM lu nd m 0 && iM lu nd m 1)
 else if(nd m).k=31 then jQ (nd m) true false false false false true && (decide (19<=(nd m).o) && decide ((nd m).o<=22)) && (((nd m).kn:Int)==1 && iM lu nd m 0)
 else if(nd m).k=32 then jQ (nd m) true false false false false true && (decide (1<=(nd m).o) && decide ((nd m).o<=18)) && (((nd m).kn:Int)==2 && iM lu nd m 0 && iM lu nd m 1)
 else if(nd m).k=34 then jQ (nd m) false false false false false true && decide (0<(nd m).kn) && jI lu nd m 0 (nd m).kn
 else if(nd m).k=35 then jQ (nd m) true false false false false true && ((nd m).kn:Int)%2==0 && jI lu nd m 0 (nd m).kn && ((nd m).o==0 || (nd m).o==1 && decide (0<(nd m).kn) && iM Ik nd m ((nd m).kn-2) && iM DZ nd m ((nd m).kn-1))
 else if(nd m).k=38 then jQ (nd m) false false false false false true && (((nd m).kn:Int)==1 && iM DZ nd m 0)
 else false
def oJ(nd:Nat->ND)(m:Nat):Bool:=
 (oW (nd m).k || mM (nd m).k) && (if oW (nd m).k then decide (1<=(nd m).l) && decide ((nd m).l<=100000) else(nd m).l==0) && decide (((nd m).kn:Int)<=200) && mJ nd m
def CG(nd:Nat->ND)(m:Nat):Prop:=∀i,i<(nd m).kn->0<=(nd m).c i/\(nd m).c i<m
theorem zL{s:Nat}{nd:Nat->ND}{m:Nat}{c:Int}(h:iK s nd m c=true):0<=c/\c<m:=by
 unfold iK at h;simp at h;exact h.1
theorem yt2{s:Nat}{p:Int->Bool}(hs:∀k,setB s k=p k)(h0:p 0=false){nd:Nat->ND}{m:Nat}:jI s nd m 0 (nd m).kn=true↔CG nd m/\allB (fun i=>p (jL nd m i)) 0 (nd m).kn=true:=by
 have e:jI s nd m 0 (nd m).kn=allB (fun i=>p (jL nd m i)) 0 (nd m).kn:=y32 fun i _ hi=>(IB hs h0 hi).symm;rw[e];exact⟨fun h=>⟨fun i hi=>by
  have:=iw.1 h i (aF _) hi;simp only[IB hs h0 hi] at this;exact zL this,h⟩,fun h=>h.2⟩
theorem yt1{nd:Nat->ND}{m:Nat}:jI lu nd m 0 (nd m).kn=true↔CG nd m/\lD nd m 0 (nd m).kn=true:=yt2 Hz (by decide)
theorem Hw{s:Nat}{p:Int->Bool}(hs:∀k,setB s k=p k)(h0:p 0=false){nd:Nat->ND}{m i:Nat}(hi:i<(nd m).kn):iM s nd m i=p (jL nd m i):=(IB hs h0 hi).symm
theorem Ur{nd:Nat->ND}{m:Nat}:lD nd m 0 1=mM (jL nd m 0):=by
 rw[cZ];unfold lD;rw[iw];exact⟨fun h=>h 0 (ah _) (by omega),fun h i _ hi=>by
  obtain rfl:i=0:=by omega
  exact h⟩
theorem yd5{nd:Nat->ND}{m:Nat}:lD nd m 0 2=(mM (jL nd m 0) && mM (jL nd m 1)):=by
 rw[cZ];unfold lD;rw[iw,aY];exact⟨fun h=>⟨h 0 (ah _) (by omega),h 1 (by omega) (by omega)⟩,fun h i _ hi=>by
  rcases(show i=0\/i=1 by omega) with rfl|rfl
  ·exact h.1
  ·exact h.2⟩
theorem ZL{nd:Nat->ND}{m:Nat}:lD nd m 0 3=(mM (jL nd m 0) && mM (jL nd m 1) && mM (jL nd m 2)):=by
 rw[cZ];unfold lD;rw[iw,aY,aY];exact⟨fun h=>⟨⟨h 0 (ah _) (by omega),h 1 (by omega) (by omega)⟩,h 2 (by omega) (by omega)⟩,fun h i _ hi=>by
  rcases(show i=0\/i=1\/i=2 by omega) with rfl|rfl|rfl
  ·exact h.1.1
  ·exact h.1.2
  ·exact h.2⟩
theorem BP{nd:Nat->ND}{m:Nat}(h:(nd m).kn=0):CG nd m:=fun i hi=>by omega
theorem Dp{nd:Nat->ND}{m:Nat}{s:Nat}(h:(nd m).kn=1)(h0:iM s nd m 0=true):CG nd m:=fun i hi=>by
 obtain rfl:i=0:=by omega
 exact zL h0
theorem Td{nd:Nat->ND}{m:Nat}{s t:Nat}(h:(nd m).kn=2)(h0:iM s nd m 0=true)(h1:iM t nd m 1=true):CG nd m:=fun i hi=>by
 rcases(show i=0\/i=1 by omega) with rfl|rfl
 ·exact zL h0
 ·exact zL h1
theorem kr3{nd:Nat->ND}{m:Nat}{s t u:Nat}(h:(nd m).kn=3)(h0:iM s nd m 0=true)(h1:iM t nd m 1=true)(h2:iM u nd m 2=true):CG nd m:=fun i hi=>by
 rcases(show i=0\/i=1\/i=2 by omega) with rfl|rfl|rfl
 ·exact zL h0
 ·exact zL h1
 ·exact zL h2
theorem kr4{nd:Nat->ND}{m:Nat}{s t u v:Nat}(h:(nd m).kn=4)(h0:iM s nd m 0=true)(h1:iM t nd m 1=true)(h2:iM u nd m 2=true)(h3:iM v nd m 3=true):CG nd m:=fun i hi=>by
 rcases(show i=0\/i=1\/i=2\/i=3 by omega) with rfl|rfl|rfl|rfl
 ·exact zL h0
 ·exact zL h1
 ·exact zL h2
 ·exact zL h3
theorem jb7(a:ND)(o n f s:Bool):jQ a o n f s true true=kY a o n f s a.rn:=by simp[jQ,kY,Hy]
theorem j39(a:ND)(o n f s:Bool):jQ a o n f s false true=kY a o n f s 0:=by simp[jQ,kY,Hy]
theorem j40(a:ND)(o n f s:Bool):jQ a o n f s false false=(((a.kn:Int)==0) && kY a o n f s 0):=by simp only[jQ,kY,Hy,Bool.false_or,Bool.and_comm]
theorem jb8(a:ND)(o n f s:Bool):jQ a o n f s true false=(((a.kn:Int)==0) && kY a o n f s a.rn):=by simp[jQ,kY,Hy,Bool.and_comm]
theorem KY{a:ND}{o n f s:Bool}{r:Int}(h:(a.rn:Int)=r):kY a o n f s a.rn=kY a o n f s r:=by rw[h]
theorem z59{nd:Nat->ND}{m i:Nat}(h:(nd m).kn=i+1):tN nd m=(jL nd m i==1):=by
 unfold tN;rw[h];simp
theorem jd5{nd:Nat->ND}{m:Nat}(hs:oW (nd m).k=true):mJ nd m=true↔CG nd m/\rG nd m=true:=by
 have hr:1<=(nd m).k/\(nd m).k<=14:=by unfold oW at hs;simp at hs;exact hs
 have hS:=@yt2 RP oW MV (by decide) nd m;have hE:=@yt1 nd m;have aE:=fun i hi=>@Hw lu mM Hz (by decide) nd m i hi;have aB:=fun i hi=>@Hw vS (·==1) jc7 (by decide) nd m i hi;have aL:=fun i hi=>@Hw Nr (fun k=>k==1 || k==5) jc4 (by decide) nd m i hi;have aC:=fun i hi=>@Hw RS (·==34) jc6 (by decide) nd m i hi;unfold mJ rG;rcases(show(nd m).k=1\/(nd m).k=2\/(nd m).k=3\/(nd m).k=4\/(nd m).k=5\/(nd m).k=6\/(nd m).k=7\/(nd m).k=8\/(nd m).k=9\/(nd m).k=10\/(nd m).k=11\/(nd m).k=12\/(nd m).k=13\/(nd m).k=14 by omega) with e|e|e|e|e|e|e|e|e|e|e|e|e|e<;>(simp only[e];simp only[Int.reduceEq,if_true,if_false,or_false,or_true,jb7,j39,j40,aY,Bool.or_eq_true,beq_iff_eq,decide_eq_true_eq])
 ·rw[hS];grind
 ·rw[hE];grind
 ·constructor
  ·rintro⟨⟨⟨⟨h1,h2⟩,h3⟩,h4⟩,h5⟩;have hk:CG nd m:=fun i hi=>by
    by_cases c:i<(nd m).n.toNat
    ·exact zL (iw.1 h4 i (aF _) c)
    ·exact zL (iw.1 h5 i (by omega) hi)
   refine⟨hk,⟨⟨?_,?_⟩,h1⟩,?_⟩
   ·simp;omega
   ·exact iw.2 fun i _ hi=>by
     have:=iw.1 h4 i (aF _) hi
     rwa [<-IB j58 (by decide) (by omega)] at this
   ·exact iw.2 fun i h0 hi=>by
     have:=iw.1 h5 i h0 hi
     rwa [<-IB Hz (by decide) (by omega)] at this
  ·rintro⟨_,⟨⟨h1,h2⟩,h3⟩,h4⟩;simp at h1;refine⟨⟨⟨⟨h3,by omega⟩,by omega⟩,?_⟩,?_⟩
   ·exact iw.2 fun i _ hi=>by
     have:=iw.1 h2 i (aF _) hi
     rwa [IB j58 (by decide) (by omega)] at this
   ·exact iw.2 fun i h0 hi=>by
     have:=iw.1 h4 i h0 hi
     rwa [IB Hz (by decide) (by omega)] at this
 case inr.inr.inr.inr.inr.inr.inl=>
  constructor
  ·rintro⟨⟨h1,h2⟩,⟨⟨⟨h3,h4⟩,h5⟩,h6⟩,h7⟩;have hk:(nd m).kn=4:=by omega
   have:=kr4 hk h4 h5 h6 h7;rw[aE _ (by omega)] at h4 h5 h6;rw[aB _ (by omega)] at h7;rw[ZL,z59 hk,h4,h5,h6,h7,<-KY h2];exact⟨this,⟨⟨h3,rfl⟩,rfl⟩,h1⟩
  ·rintro⟨h0,⟨⟨h1,h2⟩,h3⟩,h4⟩;have hk:(nd m).kn=4:=by omega
   have hb:=wM h4;rw[ZL] at h2;rw[z59 hk] at h3;simp only[aY] at h2;rw[aE _ (by omega),aE _ (by omega),aE _ (by omega),aB _ (by omega),KY hb,h2.1.1,h2.1.2,h2.2,h3];exact⟨⟨h4,hb⟩,⟨⟨⟨h1,rfl⟩,rfl⟩,rfl⟩,rfl⟩
 case inr.inr.inr.inr.inr.inr.inr.inr.inr.inr.inr.inl=>
  constructor
  ·rintro⟨⟨h1,h2⟩,⟨h3,h4⟩,h5⟩;have hk:(nd m).kn=2:=by omega
   have:=Td hk h4 h5;rw[aB _ (by omega)] at h4 h5;rw[z59 hk,h5,<-KY h2];exact⟨this,⟨⟨h3,by simpa using h4⟩,rfl⟩,h1⟩
  ·rintro⟨h0,⟨⟨h1,h2⟩,h3⟩,h4⟩;have hk:(nd m).kn=2:=by omega
   have hb:=wM h4;rw[z59 hk] at h3;rw[aB _ (by omega),aB _ (by omega),KY hb,h2,h3];exact⟨⟨h4,hb⟩,⟨h1,rfl⟩,rfl⟩
 all_goals first|(rw[hE];grind)|(rw[Ur];grind [Dp,Td,kr3,BP,z59])|grind [BP,Dp,Td,z59]
theorem j94{nd:Nat->ND}{m:Nat}(hs:mM (nd m).k=true):mJ nd m=true↔CG nd m/\yB nd m=true:=by
 have hr:20<=(nd m).k/\(nd m).k<=38:=by unfold mM at hs;simp at hs;exact hs
 have hE:=@yt1 nd m;have aE:=fun i hi=>@Hw lu mM Hz (by decide) nd m i hi;have aI:=fun i hi=>@Hw Ik (·==23) jc3 (by decide) nd m i hi;have aM:=fun i hi=>@Hw DZ Lr jc2 (by decide) nd m i hi;unfold mJ yB;rcases(show(nd m).k=20\/(nd m).k=21\/(nd m).k=22\/(nd m).k=23\/(nd m).k=24\/(nd m).k=25\/(nd m).k=26\/(nd m).k=27\/(nd m).k=28\/(nd m).k=29\/(nd m).k=30\/(nd m).k=31\/(nd m).k=32\/(nd m).k=33\/(nd m).k=34\/(nd m).k=35\/(nd m).k=36\/(nd m).k=37\/(nd m).k=38 by omega) with e|e|e|e|e|e|e|e|e|e|e|e|e|e|e|e|e|e|e<;>(simp only[e];simp only[Int.reduceEq,if_true,if_false,or_false,or_true,jb8,j39,j40,aY,Bool.or_eq_true,beq_iff_eq,decide_eq_true_eq])
 all_goals first
  |grind [BP,Dp]
  |(rw[hE];grind)
  |(constructor
    ·rintro⟨⟨h1,h2⟩,h3⟩;rw[<-KY h3];exact⟨BP (by omega),h1,h2⟩
    ·rintro⟨_,h1,h2⟩;have hb:=wM h2;rw[KY hb];exact⟨⟨h1,h2⟩,hb⟩)
  |(constructor
    ·intro h;have hk:(nd m).kn=1:=by omega
     have:=Dp hk h.2.2;rw[hk,Ur];rw[aE _ (by omega)] at h
     grind
    ·intro h;have hk:(nd m).kn=1:=by omega
     rw[hk,Ur] at h;rw[aE _ (by omega)]
     grind)
  |(constructor
    ·intro h;have hk:(nd m).kn=2:=by omega
     have:=Td hk h.2.1.2 h.2.2;rw[hk,yd5];rw[aE _ (by omega),aE _ (by omega)] at h
     grind
    ·intro h;have hk:(nd m).kn=2:=by omega
     rw[hk,yd5] at h;rw[aE _ (by omega),aE _ (by omega)]
     grind)
theorem yd7{nd:Nat->ND}{m:Nat}(h:yB nd m=true):mM (nd m).k=true:=by
 unfold yB at h;have hr:20<=(nd m).k/\(nd m).k<=38:=by
  refine bG fun hn=>?_;have hf:∀{p:Prop} [Decidable p] {a b:Bool},¬p->(if p then a else b)=true->b=true:=fun hp h=>by rwa [au hp] at h
  exact absurd (hf (by omega) (hf (by omega) (hf (by omega) (hf (by omega) (hf (by omega) (hf (by omega) (hf (by omega) (hf (by omega) (hf (by omega) (hf (by omega) (hf (by omega) (hf (by omega) h)))))))))))) (by decide)
 unfold mM;simp;exact hr
theorem Ou{nd:Nat->ND}{m:Nat}:allB (fun i=>!(decide ((nd m).c i<0) || decide ((m:Int)<=(nd m).c i))) 0 (nd m).kn=true↔CG nd m:=by
 rw[iw];exact⟨fun h i hi=>by have:=h i (aF _) hi;simp at this;omega,fun h i _ hi=>by have:=h i hi;simp;omega⟩
theorem yt9(nd:Nat->ND)(m:Nat):oJ nd m=qm nd m:=by
 rw[cZ];unfold oJ qm;by_cases hs:oW (nd m).k=true
 ·have h:=jd5 hs;rw[aO hs,aO hs];simp only[aY,Ou,h,hs,Bool.or_eq_true,Bool.not_eq_true',decide_eq_false_iff_not,decide_eq_true_eq];constructor
  ·rintro⟨⟨⟨_,h1⟩,h2⟩,h3,h4⟩;exact⟨⟨by omega,h3⟩,h1,h4⟩
  ·rintro⟨⟨h1,h2⟩,h3,h4⟩;exact⟨⟨⟨.inl trivial,h3⟩,by omega⟩,h2,h4⟩
 ·rw[au hs,au hs];simp only[aY,Ou,Bool.or_eq_true,Bool.not_eq_true',decide_eq_false_iff_not,decide_eq_true_eq];constructor
  ·rintro⟨⟨⟨h0,h1⟩,h2⟩,h3⟩;have h:=(j94 (h0.resolve_left hs)).1 h3;exact⟨⟨by omega,h.1⟩,h1,h.2⟩
  ·rintro⟨⟨h1,h2⟩,h3,h4⟩;exact⟨⟨⟨.inr (yd7 h4),h3⟩,by omega⟩,(j94 (yd7 h4)).2 ⟨h2,h4⟩⟩
section
open Go.RowKit
attribute [local go_sem] iD
def qj(d:FD)(x:FA):Prop:=d.nn<=x.nc/\∀i,i<d.nn->(d.nd i).kn<=(x.nas i).kc
structure ID where
 an:Nat
 a:Nat->ByteArray
 ln:Nat
 l:Nat->ByteArray
 t:Int
 d:Int
 c:Int
structure ID.sm(x:ID):Prop where
 an:x.an<=1048576
 a:∀i,i<x.an->(x.a i).size<=1048576
 ln:x.ln<=1048576
 l:∀i,i<x.ln->(x.l i).size<=1048576
structure IA where
 aa:Option Addr
 ac:Nat
 la:Option Addr
 lc:Nat
abbrev inV(d:ID)(x:IA):Value:=.agg #[.slice x.aa d.an x.ac,.slice x.la d.ln x.lc,.int .i64 d.t,.int .i64 d.d,.int .i64 d.c]
def y34(L:Nat)(w:World)(a:Option Addr)(n:Nat)(q:Nat->ByteArray):Prop:=iF 1 L w a n fun i=>#[.string (q i)]
def xu(L:Nat)(w:World)(d:ID)(x:IA):Prop:=y34 L w x.aa d.an d.a/\y34 L w x.la d.ln d.l
theorem xu.below{L:Nat}{w w':World}{d:ID}{x:IA}(h:xu L w d x)(hb:gZ w w'):xu L w' d x:=⟨iF.below h.1 hb,iF.below h.2 hb⟩
theorem xu.alloc{L:Nat}{w:World}{d:ID}{x:IA}(h:xu L w d x)(o:Obj):xu L (w.alloc o) d x:=h.below (q01 w o)
end
section
open Go.RowKit
attribute [local go_sem] iD
attribute [local go_sem ↓] Go.wp_at_zero Go.wp_at_succ
def KL(n:Nat)(q:Nat->ByteArray):Prop:=n<=200/\∀i,i<n->(q i).size<=4000
def Fq(d:ID):Prop:=(0<=d.t/\d.t<=5000)/\(1<=d.d/\d.d<=60)/\(0<=d.c/\d.c<=20000)
def okI(d:ID):Prop:=KL d.an d.a/\KL d.ln d.l/\Fq d
def kU(d:ID)(e:Ending):Prop:=∃b,e=.returned (.bool b)/\(b=true↔okI d)
theorem kU.no{d:ID}(h:¬okI d):kU d (.returned (.bool false)):=⟨_,rfl,by simp[h]⟩
theorem kU.num{d:ID}{b:Bool}(h:KL d.an d.a)(h':KL d.ln d.l)(e:b=true↔Fq d):kU d (.returned (.bool b)):=⟨_,rfl,e.trans ⟨fun k=>⟨h,h',k⟩,fun k=>k.2.2⟩⟩
def JE(i l m:Int):Bool:=decide (l<=i) && decide (i<=m)
theorem VJ(i l m:Int)(w:World):Calls Tryz.prog 47 #[.int .i64 i,.int .i64 l,.int .i64 m] w fun e w'=>e=.returned (.bool (JE i l m))/\w'=w:=by
 go_in;go_wp2_with fail;all_goals go_ret
 all_goals exact⟨by simp[JE, *]<;>(intros;omega),rfl⟩
theorem qm0(s:ByteArray)(w:World):Calls Tryz.prog 46 #[.string s] w fun e w'=>e=.returned (.bool (decide (4000<s.size)))/\w'=w:=by
 go_in;go_wp2_with fail;go_ret;exact⟨by simp;omega,rfl⟩
def yu7(n:Nat)(q:Nat->ByteArray)(r:Int):Prop:=(r = -1/\∀i,i<n->(q i).size<=4000)\/∃i:Nat,r=i/\i<n/\4000<(q i).size
theorem zh4(L:Nat)(a:Option Addr)(n cap:Nat)(q:Nat->ByteArray)(w:World)(hn:n<=1048576)(hT:y34 L w a n q):Calls Tryz.prog 84 #[.slice a n cap,.func (.func 46) #[] #[]] w fun e w'=>(∃r,e=.returned (.int .i64 r)/\yu7 n q r)/\w'=w:=by
 have HT:Hid (y34 L w a n q):=hT;go_in;go_wp2_with fail
 go_loopw [8] (fun i wr=>∃(k:Nat),k<=n/\i=.int .i64 k/\Hid (∀j,j<k->(q j).size<=4000)/\wr=w) (fun i _=>n-(intOf i).toNat)
 case atStart=>exact⟨0,aF _,rfl,fun j hj=>by omega,rfl⟩
 case round=>
  obtain⟨k,hk,rfl,HK,rfl⟩:=hrel;by_cases fE:k<n
  ·obtain⟨b,off,rfl,_,hb,d0⟩:=jd HT.out fE;by_cases c3:4000<(q k).size
   ·go_wp2_with (go_at_call 46;refine(qm0 _ _).mono ?_;rw[bJ c3];rintro e w1 ⟨rfl,rfl⟩);go_ret;exact⟨⟨_,rfl,.inr ⟨k,rfl,fE,c3⟩⟩,rfl⟩
   ·go_wp2_with (go_at_call 46;refine(qm0 _ _).mono ?_;rw[bP c3];rintro e w1 ⟨rfl,rfl⟩);go_roundw
    case rel=>exact⟨k+1,by omega,by go_num,fun j hj=>by
     by_cases e:j=k
     ·subst e;omega
     ·exact HK.out j (by omega),by first|rfl|trivial⟩
    case measure=>simp[intOf];omega
  ·go_wp2_with fail;go_ret;exact⟨⟨_,rfl,.inl ⟨rfl,fun i hi=>HK.out i (by omega)⟩⟩,rfl⟩
def yq2(n:Nat)(q:Nat->ByteArray)(e:Ending):Prop:=∃b,e=.returned (.bool b)/\(b=false↔∀i,i<n->(q i).size<=4000)
theorem qi5(L:Nat)(a:Option Addr)(n cap:Nat)(q:Nat->ByteArray)(w:World)(hn:n<=1048576)(hT:y34 L w a n q):Calls Tryz.prog 45 #[.slice a n cap,.func (.func 46) #[] #[]] w fun e w'=>yq2 n q e/\w'=w:=by
 have HT:Hid (y34 L w a n q):=hT;go_in;go_wp2_with (go_at_call 84;refine(zh4 L a n cap q _ hn HT).mono ?_;rintro e w1 ⟨⟨r,rfl,hr⟩,rfl⟩;have HR:Hid (yu7 n q r):=hr);go_ret;refine⟨⟨_,rfl,?_⟩,rfl⟩;rcases HR.out with⟨rfl,h⟩|⟨i,rfl,hi,h⟩
 ·exact⟨fun _=>h,fun _=>rfl⟩
 ·constructor
  ·intro h0;simp at h0
  ·intro h0;have:=h0 i hi;omega
theorem qp1(L:Nat)(d:ID)(x:IA)(w:World)(hs:d.sm)(hT:xu L w d x):Calls Tryz.prog 27 #[inV d x] w fun e w'=>kU d e/\gZ w w':=by
 have HT:Hid (xu L w d x):=hT;have HS:Hid d.sm:=hs;have ha:=hs.an;have hl:=hs.ln;clear hT hs;go_in;go_wp2_with fail;refine bW 3 ?_;rw[bC];by_cases c1:200<d.an
 ·go_wp2_with fail;go_ret;exact⟨kU.no fun h=>by have:=h.1.1;omega,kF _ _ _⟩
 go_wp2_with fail;refine(qi5 L x.aa d.an x.ac d.a _ ha ((HT.alloc _).alloc _).1).mono ?_;rintro e w1 ⟨⟨b,rfl,hb⟩,rfl⟩
 cases b
 case true=>
  go_wp2_with fail;go_ret;exact⟨kU.no fun h=>Bool.noConfusion (hb.2 h.1.2),kF _ _ _⟩
 have YM:Hid (KL d.an d.a):=⟨by omega,hb.1 rfl⟩;clear hb;go_wp2_with fail;rw[bC];by_cases c2:200<d.ln
 ·go_wp2_with fail;go_ret;exact⟨kU.no fun h=>by have:=h.2.1.1;omega,kF _ _ _⟩
 go_wp2_with fail;refine(qi5 L x.la d.ln x.lc d.l _ hl ((HT.alloc _).alloc _).2).mono ?_;rintro e w1 ⟨⟨b,rfl,hb⟩,rfl⟩
 cases b
 case true=>
  go_wp2_with fail;go_ret;exact⟨kU.no fun h=>Bool.noConfusion (hb.2 h.2.1.2),kF _ _ _⟩
 have YL:Hid (KL d.ln d.l):=⟨by omega,hb.1 rfl⟩;clear hb;go_wp2_with fail;rw[bC]
 cases q1:JE d.t 0 5000
 ·go_wp2_with (go_at_call 47;refine(VJ _ _ _ _).mono ?_;rw[q1];rintro e w1 ⟨rfl,rfl⟩);go_ret;exact⟨kU.num YM.out YL.out (by unfold Fq;unfold JE at q1;simp at q1 ⊢;intros;omega),kF _ _ _⟩
 ·cases q2:JE d.d 1 60
  ·go_wp2_with (go_at_call 47;refine(VJ _ _ _ _).mono ?_;(first|rw[q1]|rw[q2]);rintro e w1 ⟨rfl,rfl⟩);go_ret;exact⟨kU.num YM.out YL.out (by unfold Fq;unfold JE at q2;simp at q2 ⊢;intros;omega),kF _ _ _⟩
  ·go_wp2_with (go_at_call 47;refine(VJ _ _ _ _).mono ?_;(first|rw[q1]|rw[q2]|skip);rintro e w1 ⟨rfl,rfl⟩);go_ret;exact⟨kU.num YM.out YL.out (by unfold Fq;unfold JE at q1 q2 ⊢;simp at q1 q2 ⊢;omega),kF _ _ _⟩
end
end Go.Proofs.YthnkncpegihbhaaGreatDoor
