import Derived.Test.YtaimofjekgnieaaGreatDoorUnC
import Derived.Deep.DrawnRows
import Derived.Deep.RegionHeld3
import Derived.Deep.RegionWith
import Derived.Test.YtaimofjekgnieaaGreatDoorUnA
set_option maxRecDepth 100000
set_option maxHeartbeats 16000000
namespace Go.Proofs.YtaimofjekgnieaaGreatDoor
open Go.RowKit
theorem frS {B blk o:Nat} {a w:World} (h:Below B a w) (hp:B<=blk) (v:Value):Below B a (w.setCell ⟨blk,o,none⟩ v):=h.setCell (p:=⟨blk,o,none⟩) hp v
end Go.Proofs.YtaimofjekgnieaaGreatDoor
namespace Go.Proofs.YtaimofjekgnieaaGreatDoor
open Go.RowKit
attribute [local go_sem] q00
theorem z25:(Tryz.prog.info? 3).map (fun i=>(i.zero,i.size,i.bytes))=some (some (.int .i64 0),1,8):=by kernel_rfl
def CapF (d:FD) (x:FA):Prop:=d.nn<=x.nc/\∀ i,i<d.nn->(d.nd i).kn<=(x.nas i).kc
end Go.Proofs.YtaimofjekgnieaaGreatDoor
namespace Go.Proofs.YtaimofjekgnieaaGreatDoor
open Go.RowKit
attribute [local go_sem] q00
attribute [local go_sem ↓] Go.wp_at_zero Go.wp_at_succ
def stK (k:Int):Bool:=decide (1<=k) && decide (k<=14)
def exK (k:Int):Bool:=decide (20<=k) && decide (k<=38)
def tgK (k:Int):Bool:=k==26 || k==27 || k==33
def mnK (k:Int):Bool:=k==34 || k==37
def kidK (nd:Nat->ND) (m i:Nat):Int:=if i<(nd m).kn then (if 0<=(nd m).c i/\(nd m).c i<m then (nd ((nd m).c i).toNat).k else 0) else 0
def allB (p:Nat->Bool) (lo hi:Nat):Bool:=decide (∀ i,i<hi->lo<=i->p i=true)
theorem allB_true {p:Nat->Bool} {lo hi:Nat}:allB p lo hi=true↔∀ i,lo<=i->i<hi->p i=true:=by
 unfold allB
 rw[decide_eq_true_iff]
 exact ⟨fun h i a b=>h i b a,fun h i a b=>h i b a⟩
theorem zj2 {p:Nat->Bool} {lo hi k:Nat} (h1:lo<=k) (h2:k<hi) (h:p k=false):allB p lo hi=false:=by
 cases e:allB p lo hi
 ·rfl
 ·rw[allB_true.1 e k h1 h2] at h;cases h
def exsB (nd:Nat->ND) (m lo hi:Nat):Bool:=allB (fun i=>exK (kidK nd m i)) lo hi
def zi5 (o' n':Int) (f':Nat) (s':ByteArray) (rn:Nat) (o n f s:Bool) (r:Int):Bool:=(o || o'==0) && (n || n'==0) && (f || fz f') && (s || se s') && ((rn:Int)==r)
def q38 (d:ND) (o n f s:Bool) (r:Int):Bool:=zi5 d.o d.n d.f d.s d.rn o n f s r
end Go.Proofs.YtaimofjekgnieaaGreatDoor
namespace Go.Proofs.YtaimofjekgnieaaGreatDoor
def ze8 (p:Nat->Int) (i k:Nat):Nat->Int:=fun x=>if x=k then (if p k = -2 then (i:Int) else -3) else p x
def qg6 (nd:Nat->ND) (i:Nat) (p:Nat->Int):Nat->Nat->Int
 |0=>p
 |j+1=>ze8 (qg6 nd i p j) i ((nd i).c j).toNat
def q91 (nd:Nat->ND):Nat->Nat->Int
 |0=>fun _=>-2
 |i+1=>qg6 nd i (q91 nd i) (nd i).kn
def parP (nd:Nat->ND) (n:Nat):Nat->Int:=fun x=>if x=n-1/\q91 nd n (n-1) = -2 then -1 else q91 nd n x
def depP (p:Nat->Int) (n:Nat):Nat->Nat->Int
 |0=>fun _=>0
 |j+1=>fun x=>if x=n-2 - j/\0<=p (n-2 - j) then depP p n j (p (n-2 - j)).toNat+1 else depP p n j x
def q79 (nd:Nat->ND) (n:Nat):Prop:=∀ i,i<n->∀ j,j<(nd i).kn->0<=(nd i).c j/\(nd i).c j<i
def PRng (n:Nat) (p:Nat->Int):Prop:=∀ x,(p x = -2\/p x = -3\/(x<p x/\p x<n))
theorem z94 {nd:Nat->ND} {n i:Nat} (hi:i<n) (hk:q79 nd n) {p:Nat->Int} (hp:PRng n p):∀ j,j<=(nd i).kn->PRng n (qg6 nd i p j)
 |0,_=>hp
 |j+1,hj=>fun x=>by
  have ih:=z94 hi hk hp j (by omega)
  have h:=hk i hi j (by omega)
  unfold qg6 ze8
  by_cases e:x=((nd i).c j).toNat
  ·rw[if_pos e]
   split
   ·right;right;omega
   ·right;left;rfl
  ·rw[if_neg e]
   exact ih x
theorem qw3 {nd:Nat->ND} {n:Nat} (hk:q79 nd n):∀ i,i<=n->PRng n (q91 nd i)
 |0,_=>fun _=>.inl rfl
 |i+1,hi=>z94 (by omega) hk (qw3 hk i (by omega)) _ (Nat.le_refl _)
theorem y52 {nd:Nat->ND} {n:Nat} (hk:q79 nd n) (x:Nat):parP nd n x = -1\/parP nd n x = -2\/parP nd n x = -3\/(x<parP nd n x/\parP nd n x<n):=by
 unfold parP
 split
 ·exact .inl rfl
 ·exact .inr (qw3 hk n (Nat.le_refl _) x)
theorem qx1 {nd:Nat->ND} {n i:Nat} (hi:i<n) (hk:q79 nd n) {p:Nat->Int} (hp:p (n-1) = -2):∀ j,j<=(nd i).kn->qg6 nd i p j (n-1) = -2
 |0,_=>hp
 |j+1,hj=>by
  have ih:=qx1 hi hk hp j (by omega)
  have h:=hk i hi j (by omega)
  unfold qg6 ze8
  rw[if_neg (by omega)]
  exact ih
theorem qp3 {nd:Nat->ND} {n:Nat} (hk:q79 nd n):∀ i,i<=n->q91 nd i (n-1) = -2
 |0,_=>rfl
 |i+1,hi=>qx1 (by omega) hk (qp3 hk i (by omega)) _ (Nat.le_refl _)
theorem ye3 {nd:Nat->ND} {n:Nat} (hk:q79 nd n) (x:Nat):parP nd n x=if x=n-1 then -1 else q91 nd n x:=by
 unfold parP
 rw[qp3 hk n (Nat.le_refl _)]
 simp
theorem z33 (p:Nat->Int) (n:Nat):∀ j x,0<=depP p n j x/\depP p n j x<=j
 |0,_=>⟨Int.le_refl _,Int.le_refl _⟩
 |j+1,x=>by
  unfold depP
  split
  ·have:=z33 p n j (p (n-2 - j)).toNat;omega
  ·have:=z33 p n j x;omega
def Seen (nd:Nat->ND) (i j:Nat) (x a b:Nat):Prop:=(a<i/\b<(nd a).kn\/a=i/\b<j)/\(nd a).c b=x
def PSays (p:Int) (Q:Nat->Nat->Prop):Prop:=
 (p = -2->∀ a b,¬Q a b)/\(0<=p->∃ b,Q p.toNat b/\∀ a' b',Q a' b'->a'=p.toNat/\b'=b)
theorem PSays.congr {p:Int} {Q R:Nat->Nat->Prop} (h:PSays p Q) (e:∀ a b,Q a b↔R a b):PSays p R:=
 ⟨fun h0 a b hr=>h.1 h0 a b ((e a b).2 hr),fun h0=>by
  obtain ⟨b,h1,h2⟩:=h.2 h0
  exact ⟨b,(e _ _).1 h1,fun a' b' hr=>h2 a' b' ((e _ _).2 hr)⟩⟩
theorem qx0 {nd:Nat->ND} {n i:Nat} (hi:i<n) (hk:q79 nd n) {p:Nat->Int} (hp:∀ x,PSays (p x) (Seen nd i 0 x)) :
  ∀ j,j<=(nd i).kn->∀ x,PSays (qg6 nd i p j x) (Seen nd i j x)
 |0,_=>hp
 |j+1,hj=>fun x=>by
  have ih:=qx0 hi hk hp j (by omega) x
  have h:=hk i hi j (by omega)
  have hs:∀ a b,Seen nd i (j+1) x a b↔(Seen nd i j x a b\/a=i/\b=j/\(nd i).c j=x):=by
   intro a b
   unfold Seen
   constructor
   ·rintro ⟨h1|h1,h2⟩
    ·exact .inl ⟨.inl h1,h2⟩
    ·by_cases e:b=j
     ·obtain ⟨rfl,_⟩:=h1
      subst e
      exact .inr ⟨rfl,rfl,h2⟩
     ·exact .inl ⟨.inr ⟨h1.1,by omega⟩,h2⟩
   ·rintro (⟨h1|h1,h2⟩|⟨rfl,rfl,h2⟩)
    ·exact ⟨.inl h1,h2⟩
    ·exact ⟨.inr ⟨h1.1,by omega⟩,h2⟩
    ·exact ⟨.inr ⟨rfl,by omega⟩,h2⟩
  unfold qg6 ze8
  by_cases e:x=((nd i).c j).toNat
  ·have ex:(nd i).c j=(x:Int):=by omega
   rw[if_pos e,<-e]
   by_cases e2:qg6 nd i p j x = -2
   ·rw[if_pos e2]
    refine ⟨fun h0=>by omega,fun _=>⟨j,(hs _ _).2 (.inr ⟨Int.toNat_natCast _,rfl,ex⟩),fun a' b' hr=>?_⟩⟩
    rcases (hs _ _).1 hr with h1|h1
    ·exact absurd h1 (ih.1 e2 _ _)
    ·rw[Int.toNat_natCast];exact ⟨h1.1,h1.2.1⟩
   ·rw[if_neg e2]
    exact ⟨fun h0=>by omega,fun h0=>by omega⟩
  ·rw[if_neg e]
   refine ih.congr fun a b=>⟨fun h1=>(hs _ _).2 (.inl h1),fun h1=>?_⟩
   rcases (hs _ _).1 h1 with h1|h1
   ·exact h1
   ·exact absurd h1.2.2 (by omega)
theorem qp2 {nd:Nat->ND} {n:Nat} (hk:q79 nd n):∀ i,i<=n->∀ x,PSays (q91 nd i x) (Seen nd i 0 x)
 |0,_=>fun x=>⟨fun _ a b h=>by unfold Seen at h;omega,fun h=>by unfold q91 at h;omega⟩
 |i+1,hi=>fun x=>by
  refine (qx0 (by omega) hk (qp2 hk i (by omega)) (nd i).kn (Nat.le_refl _) x).congr fun a b=>?_
  unfold Seen
  constructor
  ·rintro ⟨h1|⟨rfl,h1⟩,h2⟩
   ·exact ⟨.inl ⟨by omega,h1.2⟩,h2⟩
   ·exact ⟨.inl ⟨by omega,h1⟩,h2⟩
  ·rintro ⟨h1|h1,h2⟩
   ·by_cases e:a=i
    ·subst e;exact ⟨.inr ⟨rfl,h1.2⟩,h2⟩
    ·exact ⟨.inl ⟨by omega,h1.2⟩,h2⟩
   ·omega
def qc7 (nd:Nat->ND) (n p j x:Nat):Prop:=p<n/\j<(nd p).kn/\(nd p).c j=x
theorem y51 {nd:Nat->ND} {n:Nat} (hk:q79 nd n) {x:Nat} (h:0<=parP nd n x) :
  ∃ j,qc7 nd n (parP nd n x).toNat j x/\∀ p' j',qc7 nd n p' j' x->p'=(parP nd n x).toNat/\j'=j:=by
 have hx:parP nd n x=q91 nd n x:=by
  unfold parP at h ⊢
  split
  ·rename_i c
   rw[if_pos c] at h
   omega
  ·rfl
 rw[hx] at h ⊢
 obtain ⟨b,h1,h2⟩:=(qp2 hk n (Nat.le_refl _) x).2 h
 have hq:∀ a b,Seen nd n 0 x a b↔qc7 nd n a b x:=by
  intro a b
  unfold Seen qc7
  constructor
  ·rintro ⟨h1|h1,h2⟩
   ·exact ⟨h1.1,h1.2,h2⟩
   ·omega
  ·rintro ⟨h1,h2,h3⟩
   exact ⟨.inl ⟨h1,h2⟩,h3⟩
 exact ⟨b,(hq _ _).1 h1,fun p' j' h=>h2 _ _ ((hq _ _).2 h)⟩
def zu0 (c:Nat->Int) (k:Nat):Nat->Int:=fun x=>if x=k then c k+1 else c x
def qf6 (nd:Nat->ND) (i:Nat) (c:Nat->Int):Nat->Nat->Int
 |0=>c
 |j+1=>zu0 (qf6 nd i c j) ((nd i).c j).toNat
def q67 (nd:Nat->ND):Nat->Nat->Int
 |0=>fun _=>0
 |i+1=>qf6 nd i (q67 nd i) (nd i).kn
def PC (p c:Int):Prop:=(p = -2/\c=0)\/(0<=p/\c=1)\/(p = -3/\2<=c)
theorem qx2 (nd:Nat->ND) (i:Nat) {p c:Nat->Int} (h:∀ x,PC (p x) (c x)):∀ j x,PC (qg6 nd i p j x) (qf6 nd i c j x)
 |0=>h
 |j+1=>fun x=>by
  have ih:=qx2 nd i h j
  unfold qg6 qf6 ze8 zu0
  by_cases e:x=((nd i).c j).toNat
  ·rw[if_pos e,if_pos e]
   have:=ih ((nd i).c j).toNat
   unfold PC at this ⊢
   split<;>omega
  ·rw[if_neg e,if_neg e]
   exact ih x
theorem qp5 (nd:Nat->ND):∀ i x,PC (q91 nd i x) (q67 nd i x)
 |0=>fun _=>.inl ⟨rfl,rfl⟩
 |i+1=>qx2 nd i (qp5 nd i) _
theorem qq6 (nd:Nat->ND) (i:Nat) {c:Nat->Int} {N:Int} (h:∀ x,0<=c x/\c x<=N):∀ (j x:Nat),0<=qf6 nd i c j x/\qf6 nd i c j x<=N+j
 |0=>fun x=>by have:=h x;unfold qf6;omega
 |j+1=>fun x=>by
  have ih:=qq6 nd i h j
  unfold qf6 zu0
  split
  ·have:=ih ((nd i).c j).toNat;omega
  ·have:=ih x;omega
theorem y18 {nd:Nat->ND} {n:Nat} (hk:q79 nd n) {x:Nat} (hx:x<n-1):q67 nd n x=1↔0<=parP nd n x:=by
 rw[ye3 hk,if_neg (by omega)]
 have:=qp5 nd n x
 unfold PC at this
 omega
structure TreeOk (nd:Nat->ND) (n:Nat):Prop where
 pos:0<n
 kids:q79 nd n
 par:∀ x,x<n-1->0<=parP nd n x
 last:(nd (n-1)).k=1
theorem TreeOk.up {nd:Nat->ND} {n:Nat} (h:TreeOk nd n) {x:Nat} (hx:x<n-1):∃ p j:Nat,parP nd n x=(p:Int)/\x<p/\qc7 nd n p j x/\∀ p' j',qc7 nd n p' j' x->p'=p/\j'=j:=by
 have h0:=h.par x hx
 obtain ⟨j,h1,h2⟩:=y51 h.kids h0
 have h3:=y52 h.kids x
 exact ⟨(parP nd n x).toNat,j,by omega,by omega,h1,h2⟩
inductive Sub (nd:Nat->ND):Nat->Nat->Prop
 |self (x:Nat):Sub nd x x
 |kid (p j c x:Nat) (hj:j<(nd p).kn) (hc:(nd p).c j=(c:Int)) (h:Sub nd c x):Sub nd p x
theorem Sub.up {nd:Nat->ND} {r p:Nat} (h:Sub nd r p):∀ {j x:Nat},j<(nd p).kn->(nd p).c j=(x:Int)->Sub nd r x:=by
 induction h with
 |self y=>intro j x hj hc;exact .kid y j x x hj hc (.self x)
 |kid p' j' c' x' hj' hc' h' ih=>intro j x hj hc;exact .kid p' j' c' x hj' hc' (ih hj hc)
theorem TreeOk.all {nd:Nat->ND} {n:Nat} (h:TreeOk nd n):∀ d x,x+d=n-1->Sub nd (n-1) x:=by
 intro d
 induction d using Nat.strongRecOn with
 |ind d ih=>
  intro x hx
  by_cases e:d=0
  ·subst e
   have:x=n-1:=by omega
   subst this
   exact .self _
  ·obtain ⟨p,j,h1,h2,h3,_⟩:=h.up (x:=x) (by omega)
   have hp:=h3.1
   exact (ih (n-1 - p) (by omega) p (by omega)).up h3.2.1 h3.2.2
def DepOk (nd:Nat->ND) (n:Nat) (D:Nat->Int):Prop:=D (n-1)=0/\∀ x,x<n-1->D x=D (parP nd n x).toNat+1
theorem DepOk.uniq {nd:Nat->ND} {n:Nat} (h:TreeOk nd n) {D E:Nat->Int} (hD:DepOk nd n D) (hE:DepOk nd n E):∀ d x,x+d=n-1->D x=E x:=by
 intro d
 induction d using Nat.strongRecOn with
 |ind d ih=>
  intro x hx
  by_cases e:d=0
  ·subst e
   have:x=n-1:=by omega
   subst this
   rw[hD.1,hE.1]
  ·obtain ⟨p,j,h1,h2,h3,_⟩:=h.up (x:=x) (by omega)
   have hp:=h3.1
   rw[hD.2 x (by omega),hE.2 x (by omega),h1,Int.toNat_natCast,ih (n-1 - p) (by omega) p (by omega)]
theorem zb4 (p:Nat->Int) (n:Nat):∀ (k j x:Nat),j+k<=n-1->n-1 - j<=x->depP p n (j+k) x=depP p n j x
 |0,_,_,_,_=>rfl
 |k+1,j,x,hk,h=>by
  rw[<-Nat.add_assoc]
  show (if x=n-2 - (j+k)/\0<=p (n-2 - (j+k)) then depP p n (j+k) (p (n-2 - (j+k))).toNat+1 else depP p n (j+k) x)=_
  rw[if_neg (fun h=>by omega)]
  exact zb4 p n k j x (by omega) h
theorem yg3 {nd:Nat->ND} {n:Nat} (h:TreeOk nd n):DepOk nd n (depP (parP nd n) n (n-1)):=by
 have hk:∀ j x,j<=n-1->n-1 - j<=x->depP (parP nd n) n (n-1) x=depP (parP nd n) n j x:=fun j x hj hx=>by
  have:=zb4 (parP nd n) n (n-1 - j) j x (by omega) hx
  rwa [show j+(n-1 - j)=n-1 by omega] at this
 refine ⟨hk 0 _ (by omega) (by omega),fun x hx=>?_⟩
 obtain ⟨p,j,h1,h2,h3,_⟩:=h.up hx
 have hp:=h3.1
 rw[hk (n-2 - x+1) x (by omega) (by omega)]
 show (if x=n-2 - (n-2 - x)/\0<=parP nd n (n-2 - (n-2 - x)) then depP (parP nd n) n (n-2 - x) (parP nd n (n-2 - (n-2 - x))).toNat+1 else depP (parP nd n) n (n-2 - x) x)=_
 rw[show n-2 - (n-2 - x)=x by omega,h1,if_pos ⟨rfl,by omega⟩,Int.toNat_natCast,hk (n-2 - x) p (by omega) (by omega)]
def q44 (nd:Nat->ND) (i:Nat) (D:Nat->Int):Nat->Nat->Int
 |0=>D
 |j+1=>fun x=>if x=((nd i).c j).toNat then q44 nd i D j i+1 else q44 nd i D j x
def q80 (nd:Nat->ND) (n:Nat):Nat->Nat->Int
 |0=>fun _=>0
 |k+1=>q44 nd (n-1 - k) (q80 nd n k) (nd (n-1 - k)).kn
theorem qi3 {nd:Nat->ND} {i:Nat} {D:Nat->Int} {x:Nat}:∀ j,(∀ b,b<j->((nd i).c b).toNat≠x)->q44 nd i D j x=D x
 |0,_=>rfl
 |j+1,h=>by
  show (if x=((nd i).c j).toNat then _ else _)=_
  rw[if_neg (fun e=>h j (by omega) e.symm)]
  exact qi3 j fun b hb=>h b (by omega)
theorem zl2 {nd:Nat->ND} {n i:Nat} (hi:i<n) (hk:q79 nd n) {D:Nat->Int} {x:Nat}:∀ j,j<=(nd i).kn->(∃ b,b<j/\((nd i).c b).toNat=x)->q44 nd i D j x=D i+1
 |0,_,⟨_,h,_⟩=>by omega
 |j+1,hj,⟨b,hb,he⟩=>by
  have hself:q44 nd i D j i=D i:=qi3 j fun b hb=>by have:=hk i hi b (by omega);omega
  show (if x=((nd i).c j).toNat then q44 nd i D j i+1 else q44 nd i D j x)=_
  by_cases e:x=((nd i).c j).toNat
  ·rw[if_pos e,hself]
  ·rw[if_neg e]
   have:b≠j:=fun h=>e (by rw[<-h];exact he.symm)
   exact zl2 hi hk j (by omega) ⟨b,by omega,he⟩
theorem qq5 {nd:Nat->ND} {i:Nat} {D:Nat->Int} {N:Int} (h:∀ x,0<=D x/\D x<=N):∀ (j x:Nat),0<=q44 nd i D j x/\q44 nd i D j x<=N+j
 |0=>fun x=>by have:=h x;unfold q44;omega
 |j+1=>fun x=>by
  have ih:=qq5 (nd:=nd) (i:=i) h j
  unfold q44
  show 0<=(if x=((nd i).c j).toNat then q44 nd i D j i+1 else q44 nd i D j x)/\(if x=((nd i).c j).toNat then q44 nd i D j i+1 else q44 nd i D j x)<=_
  split
  ·have:=ih i;omega
  ·have:=ih x;omega
theorem qp4 {nd:Nat->ND} {n:Nat} (hk:q79 nd n):∀ (m k x:Nat),k+m<=n->n-1 - k<=x->q80 nd n (k+m) x=q80 nd n k x
 |0,_,_,_,_=>rfl
 |m+1,k,x,hm,hx=>by
  rw[<-Nat.add_assoc]
  show q44 nd (n-1 - (k+m)) (q80 nd n (k+m)) (nd (n-1 - (k+m))).kn x=_
  rw[qi3 _ (fun b hb=>by have:=hk (n-1 - (k+m)) (by omega) b hb;omega)]
  exact qp4 hk m k x (by omega) hx
theorem zx2 {nd:Nat->ND} {n:Nat} (h:TreeOk nd n):DepOk nd n (q80 nd n n):=by
 have hpos:=h.pos
 have hk:∀ j x,j<=n->n-1 - j<=x->q80 nd n n x=q80 nd n j x:=fun j x hj hx=>by
  have:=qp4 h.kids (n-j) j x (by omega) hx
  rwa [show j+(n-j)=n by omega] at this
 refine ⟨hk 0 _ (by omega) (by omega),fun x hx=>?_⟩
 obtain ⟨p,j,h1,h2,h3,h4⟩:=h.up hx
 have hp:=h3.1
 rw[h1,Int.toNat_natCast]
 have hstep:∀ m,n-1 - p+1 + m<=n->q80 nd n (n-1 - p+1 + m) x=q80 nd n (n-1 - p) p+1:=by
  intro m
  induction m with
  |zero=>
   intro hm
   show q44 nd (n-1 - (n-1 - p)) (q80 nd n (n-1 - p)) (nd (n-1 - (n-1 - p))).kn x=_
   rw[show n-1 - (n-1 - p)=p by omega]
   exact zl2 hp h.kids _ (Nat.le_refl _) ⟨j,h3.2.1,by rw[h3.2.2];exact Int.toNat_natCast _⟩
  |succ m ih=>
   intro hm
   show q44 nd (n-1 - (n-1 - p+1 + m)) (q80 nd n (n-1 - p+1 + m)) (nd (n-1 - (n-1 - p+1 + m))).kn x=_
   rw[qi3 _ (fun b hb e=>by
    have hc:=h.kids (n-1 - (n-1 - p+1 + m)) (by omega) b hb
    have:=h4 (n-1 - (n-1 - p+1 + m)) b ⟨by omega,hb,by omega⟩
    omega)]
   exact ih (by omega)
 have:=hstep (n-(n-1 - p+1)) (by omega)
 rw[show n-1 - p+1 + (n-(n-1 - p+1))=n by omega] at this
 rw[this,hk (n-1 - p) p (by omega) (by omega)]
theorem y81 {nd:Nat->ND} {n:Nat} (h:TreeOk nd n) {x:Nat} (hx:x<n):q80 nd n n x=depP (parP nd n) n (n-1) x:=
 DepOk.uniq h (zx2 h) (yg3 h) (n-1 - x) x (by omega)
structure FT where
 c:Nat
 f:Nat
 n:Nat
def FT.le (x y:FT):Prop:=x.c<y.c\/x.c=y.c/\(x.f<y.f\/x.f=y.f/\x.n<=y.n)
instance (x y:FT):Decidable (x.le y):=by unfold FT.le;infer_instance
abbrev ft0:FT:=⟨0,0,0⟩
def Least (P:FT->Prop) (x:FT):Prop:=(x=ft0/\∀ y,¬P y)\/(0<x.c/\P x/\∀ y,P y->x.le y)
theorem FT.ext {x y:FT} (h1:x.c=y.c) (h2:x.f=y.f) (h3:x.n=y.n):x=y:=by
 cases x;cases y;simp_all
theorem FT.le_trans {x y z:FT} (h:x.le y) (k:y.le z):x.le z:=by
 unfold FT.le at *
 omega
theorem FT.le_total (x y:FT):x.le y\/y.le x:=by
 unfold FT.le
 omega
theorem FT.le_refl (x:FT):x.le x:=by
 unfold FT.le
 omega
theorem Least.congr {P Q:FT->Prop} {x:FT} (h:Least P x) (e:∀ y,P y↔Q y):Least Q x:=by
 rcases h with ⟨rfl,h⟩|⟨h0,h1,h2⟩
 ·exact .inl ⟨rfl,fun y hy=>h y ((e y).2 hy)⟩
 ·exact .inr ⟨h0,(e _).1 h1,fun y hy=>h2 y ((e y).2 hy)⟩
theorem Least.none {P:FT->Prop} (h:Least P ft0):∀ y,¬P y:=by
 rcases h with ⟨_,h⟩|⟨h0,_,_⟩
 ·exact h
 ·exact absurd h0 (by decide)
theorem Least.zero {P:FT->Prop} (h:∀ y,¬P y):Least P ft0:=.inl ⟨rfl,h⟩
theorem Least.nil {P:FT->Prop} {x:FT} (h:Least P x) (h0:x.c=0):x=ft0:=by
 rcases h with ⟨rfl,_⟩|⟨h1,_,_⟩
 ·rfl
 ·omega
theorem Least.behind {P Q:FT->Prop} {x:FT} (h:∀ y,¬P y) (k:Least Q x):Least (fun y=>P y\/Q y) x:=
 k.congr fun y=>⟨.inr,fun h'=>h'.resolve_left (h y)⟩
theorem Least.ahead {P Q:FT->Prop} {x:FT} (h:Least P x) (h0:x.c≠0) (k:∀ y,Q y->x.c<y.c):Least (fun y=>P y\/Q y) x:=by
 rcases h with ⟨rfl,h⟩|⟨h1,h2,h3⟩
 ·exact absurd rfl h0
 ·refine .inr ⟨h1,.inl h2,fun y hy=>?_⟩
  rcases hy with hy|hy
  ·exact h3 y hy
  ·exact .inl (k y hy)
def qe0 (a b:FT):FT:=if a.c=0 then b else if b.c≠0/\¬a.le b then b else a
theorem Least.first {P Q:FT->Prop} {a b:FT} (h:Least P a) (k:Least Q b):Least (fun y=>P y\/Q y) (qe0 a b):=by
 unfold qe0
 rcases h with ⟨rfl,h⟩|⟨h0,h1,h2⟩
 ·rw[if_pos rfl]
  exact Least.behind h k
 ·rw[if_neg (by omega)]
  rcases k with ⟨rfl,k⟩|⟨k0,k1,k2⟩
  ·rw[if_neg (by simp)]
   refine .inr ⟨h0,.inl h1,fun y hy=>?_⟩
   rcases hy with hy|hy
   ·exact h2 y hy
   ·exact absurd hy (k y)
  ·by_cases e:a.le b
   ·rw[if_neg (fun h=>h.2 e)]
    refine .inr ⟨h0,.inl h1,fun y hy=>?_⟩
    rcases hy with hy|hy
    ·exact h2 y hy
    ·exact FT.le_trans e (k2 y hy)
   ·rw[if_pos ⟨by omega,e⟩]
    refine .inr ⟨k0,.inr k1,fun y hy=>?_⟩
    rcases hy with hy|hy
    ·exact FT.le_trans ((FT.le_total a b).resolve_left e) (h2 y hy)
    ·exact k2 y hy
theorem Least.one {b:FT} (h:0<b.c):Least (fun y=>y=b) b:=.inr ⟨h,rfl,fun y hy=>by rw[hy];exact FT.le_refl _⟩
theorem Least.note {P:FT->Prop} {a b:FT} (h:Least P a) (h0:0<b.c):Least (fun y=>P y\/y=b) (qe0 a b):=h.first (Least.one h0)
noncomputable def dB (p:Prop):Bool:=@decide p (Classical.propDecidable p)
theorem q32 {p:Prop} (h:p):dB p=true:=by unfold dB;exact @decide_eq_true p (Classical.propDecidable p) h
theorem q19 {p:Prop} (h:¬p):dB p=false:=by unfold dB;exact @decide_eq_false p (Classical.propDecidable p) h
theorem dB_iff {p:Prop}:dB p=true↔p:=
 ⟨fun h=>Classical.byContradiction fun k=>Bool.noConfusion ((q19 k).symm.trans h),q32⟩
def z44 (a:ND) (v:Int):Prop:=∃ b,b<a.rn/\a.r b=v
def AddP (nd:Nat->ND) (p j:Nat) (v:Int):Prop:=
 ((nd p).k=1/\∃ i,i<j/\(nd ((nd p).c i).toNat).k=2/\z44 (nd ((nd p).c i).toNat) v)
 \/(((nd p).k=7\/(nd p).k=8\/(nd p).k=12)/\j+1=(nd p).kn/\z44 (nd p) v)
inductive Vis (nd:Nat->ND) (n:Nat) (v:Int):Nat->Prop
 |here (x p j:Nat) (h:qc7 nd n p j x) (h':AddP nd p j v):Vis nd n v x
 |up (x p j:Nat) (h:qc7 nd n p j x) (h':Vis nd n v p):Vis nd n v x
inductive InL (nd:Nat->ND) (n:Nat):Nat->Prop
 |here (x p j:Nat) (h:qc7 nd n p j x) (h':((nd p).k=6\/(nd p).k=7\/(nd p).k=8)/\j+1=(nd p).kn):InL nd n x
 |up (x p j:Nat) (h:qc7 nd n p j x) (h':InL nd n p):InL nd n x
theorem TreeOk.same {nd:Nat->ND} {n:Nat} (h:TreeOk nd n) {x p j p' j':Nat} (h1:qc7 nd n p j x) (h2:qc7 nd n p' j' x):p'=p/\j'=j:=by
 have hc:=h.kids p h1.1 j h1.2.1
 have h1':=h1.2.2
 have hp:=h1.1
 obtain ⟨q,i,_,_,_,h4⟩:=h.up (x:=x) (by omega)
 have a:=h4 p j h1
 have b:=h4 p' j' h2
 omega
theorem TreeOk.noUp {nd:Nat->ND} {n:Nat} (h:TreeOk nd n) {p j:Nat} (h1:qc7 nd n p j (n-1)):False:=by
 have hc:=h.kids p h1.1 j h1.2.1
 have h1':=h1.2.2
 have hp:=h1.1
 omega
theorem Vis.iff {nd:Nat->ND} {n:Nat} (h:TreeOk nd n) {v:Int} {x p j:Nat} (hk:qc7 nd n p j x):Vis nd n v x↔(AddP nd p j v\/Vis nd n v p):=by
 constructor
 ·intro hv
  cases hv with
  |here _ p' j' h1 h2=>obtain ⟨rfl,rfl⟩:=h.same hk h1;exact .inl h2
  |up _ p' j' h1 h2=>obtain ⟨rfl,rfl⟩:=h.same hk h1;exact .inr h2
 ·rintro (h1|h1)
  ·exact .here x p j hk h1
  ·exact .up x p j hk h1
theorem Vis.root {nd:Nat->ND} {n:Nat} (h:TreeOk nd n) {v:Int}:¬Vis nd n v (n-1):=by
 intro hv
 cases hv with
 |here _ p' j' h1 h2=>exact h.noUp h1
 |up _ p' j' h1 h2=>exact h.noUp h1
theorem InL.iff {nd:Nat->ND} {n:Nat} (h:TreeOk nd n) {x p j:Nat} (hk:qc7 nd n p j x):InL nd n x↔(((nd p).k=6\/(nd p).k=7\/(nd p).k=8)/\j+1=(nd p).kn)\/InL nd n p:=by
 constructor
 ·intro hv
  cases hv with
  |here _ p' j' h1 h2=>obtain ⟨rfl,rfl⟩:=h.same hk h1;exact .inl h2
  |up _ p' j' h1 h2=>obtain ⟨rfl,rfl⟩:=h.same hk h1;exact .inr h2
 ·rintro (h1|h1)
  ·exact .here x p j hk h1
  ·exact .up x p j hk h1
theorem InL.root {nd:Nat->ND} {n:Nat} (h:TreeOk nd n):¬InL nd n (n-1):=by
 intro hv
 cases hv with
 |here _ p' j' h1 h2=>exact h.noUp h1
 |up _ p' j' h1 h2=>exact h.noUp h1
def Scoped (d:FD) (x:Nat) (v:Int):Prop:=v<d.params\/Vis d.nd d.nn v x
def qc8 (k:Int):Prop:=k=2\/k=7\/k=8\/k=12
def q78 (d:FD) (x j:Nat) (v:Int):Prop:=v<d.params\/(∃ m,m<x/\qc8 (d.nd m).k/\z44 (d.nd m) v)\/∃ b,b<j/\(d.nd x).r b=v
def InR (v:Int) (n:Nat):Prop:=0<=v/\v<n
def y27 (u:UD) (f x:Nat):Prop:=
 ((((u.fn f).nd x).k=27->InR (((u.fn f).nd x).r 0) (u.fn f).un))
 /\((((u.fn f).nd x).k=36->InR (((u.fn f).nd x).r 0) u.n))
 /\((((u.fn f).nd x).k=26->InR (((u.fn f).nd x).r 0) (u.fn f).vn/\Scoped (u.fn f) x (((u.fn f).nd x).r 0)))
 /\(qc8 ((u.fn f).nd x).k->∀ j,j<((u.fn f).nd x).rn->InR (((u.fn f).nd x).r j) (u.fn f).vn/\¬q78 (u.fn f) x j (((u.fn f).nd x).r j))
def y91 (u:UD) (f x g:Nat):Prop:=∀ i,i<(u.fn g).un->
 ((((u.fn g).u i).loc=true->InR ((u.fn g).u i).ix (u.fn f).vn/\Scoped (u.fn f) x ((u.fn g).u i).ix)
 /\(((u.fn g).u i).loc=false->InR ((u.fn g).u i).ix (u.fn f).un))
def ql0 (u:UD) (f x:Nat) (g:Int):Prop:=f<u.n/\x<(u.fn f).nn/\((u.fn f).nd x).k=36/\((u.fn f).nd x).r 0=g
def q21 (u:UD) (f x:Nat) (g:Int):Prop:=∃ f' x',(f'<f\/f'=f/\x'<x)/\ql0 u f' x' g
def qa3 (d:FD) (x:Nat):Prop:=((d.nd x).k=9\/(d.nd x).k=10)/\¬InL d.nd d.nn x
def qa2 (u:UD) (f x:Nat):Prop:=
 (((u.fn f).nd x).k=37/\(u.fn f).rest=false)
 \/(((u.fn f).nd x).k=36/\InR (((u.fn f).nd x).r 0) u.n/\((((u.fn f).nd x).r 0)<=f\/¬y91 u f x (((u.fn f).nd x).r 0).toNat))
def q54 (u:UD) (f x:Nat):Prop:=((u.fn f).nd x).k=36/\InR (((u.fn f).nd x).r 0) u.n/\q21 u f x (((u.fn f).nd x).r 0)
def Bad6 (u:UD) (y:FT):Prop:=y.c=6/\y.f<u.n/\y.n<(u.fn y.f).nn/\¬y27 u y.f y.n
def Bad7 (u:UD) (y:FT):Prop:=y.c=7/\y.f<u.n/\y.n<(u.fn y.f).nn/\qa3 (u.fn y.f) y.n
def Bad8 (u:UD) (y:FT):Prop:=y.c=8/\y.f<u.n/\y.n<(u.fn y.f).nn/\(qa2 u y.f y.n\/q54 u y.f y.n)
def Bad9 (u:UD) (y:FT):Prop:=y.c=9/\y.n=0/\1<=y.f/\y.f<u.n/\¬∃ f' x',ql0 u f' x' y.f
def BadS (u:UD) (y:FT):Prop:=Bad6 u y\/Bad7 u y\/Bad8 u y\/Bad9 u y
def vref (a:ND) (vn:Nat):List Int:=((List.range a.rn).map a.r).filter (fun v=>decide (0<=v) && decide (v<vn))
theorem z06 {a:ND} {vn:Nat} {v:Int}:v∈vref a vn↔z44 a v/\InR v vn:=by
 unfold vref z44 InR
 simp only[List.mem_filter,List.mem_map,List.mem_range,Bool.and_eq_true,decide_eq_true_eq]
def q68 (nd:Nat->ND) (vn p:Nat):Nat->List Int
 |0=>[]
 |j+1=>q68 nd vn p j++(if (nd ((nd p).c j).toNat).k=2 then vref (nd ((nd p).c j).toNat) vn else [])
theorem zk9 {nd:Nat->ND} {vn p:Nat} {v:Int}:∀ j,v∈q68 nd vn p j↔(∃ i,i<j/\(nd ((nd p).c i).toNat).k=2/\z44 (nd ((nd p).c i).toNat) v)/\InR v vn
 |0=>by unfold q68;simp
 |j+1=>by
  unfold q68
  rw[List.mem_append,zk9 j]
  constructor
  ·rintro (⟨⟨i,h1,h2⟩,h3⟩|h)
   ·exact ⟨⟨i,by omega,h2⟩,h3⟩
   ·by_cases e:(nd ((nd p).c j).toNat).k=2
    ·rw[if_pos e,z06] at h
     exact ⟨⟨j,by omega,e,h.1⟩,h.2⟩
    ·rw[if_neg e] at h
     cases h
  ·rintro ⟨⟨i,h1,h2,h3⟩,h4⟩
   by_cases e:i=j
   ·subst e
    rw[if_pos h2,z06]
    exact .inr ⟨h3,h4⟩
   ·exact .inl ⟨⟨i,by omega,h2,h3⟩,h4⟩
def StackOk (d:FD) (x:Nat) (st:List Int):Prop:=∀ v,InR v d.vn->(v∈st↔Scoped d x v)
theorem StackOk.block {d:FD} (h:TreeOk d.nd d.nn) {p j y:Nat} (hk:qc7 d.nd d.nn p j y) (e:(d.nd p).k=1) {st:List Int} (hs:StackOk d p st):StackOk d y (st++q68 d.nd d.vn p j):=fun v hv=>by
 have:=hs v hv
 unfold Scoped at this ⊢
 rw[Vis.iff h hk,List.mem_append,zk9,this]
 unfold AddP
 constructor
 ·rintro ((h1|h1)|⟨h1,_⟩)
  ·exact .inl h1
  ·exact .inr (.inr h1)
  ·exact .inr (.inl (.inl ⟨e,h1⟩))
 ·rintro (h1|(h1|h1)|h1)
  ·exact .inl (.inl h1)
  ·exact .inr ⟨h1.2,hv⟩
  ·omega
  ·exact .inl (.inr h1)
theorem StackOk.plain {d:FD} (h:TreeOk d.nd d.nn) {p j y:Nat} (hk:qc7 d.nd d.nn p j y) (e:(d.nd p).k≠1) (e':((d.nd p).k=7\/(d.nd p).k=8\/(d.nd p).k=12)->j+1≠(d.nd p).kn) {st:List Int} (hs:StackOk d p st):StackOk d y st:=fun v hv=>by
 have:=hs v hv
 unfold Scoped at this ⊢
 rw[Vis.iff h hk,this]
 unfold AddP
 constructor
 ·rintro (h1|h1)
  ·exact .inl h1
  ·exact .inr (.inr h1)
 ·rintro (h1|(h1|h1)|h1)
  ·exact .inl h1
  ·exact absurd h1.1 e
  ·exact absurd h1.2.1 (e' h1.1)
  ·exact .inr h1
theorem StackOk.last {d:FD} (h:TreeOk d.nd d.nn) {p j y:Nat} (hk:qc7 d.nd d.nn p j y) (e:(d.nd p).k=7\/(d.nd p).k=8\/(d.nd p).k=12) (e':j+1=(d.nd p).kn) {st:List Int} (hs:StackOk d p st):StackOk d y (st++vref (d.nd p) d.vn):=fun v hv=>by
 have:=hs v hv
 unfold Scoped at this ⊢
 rw[Vis.iff h hk,List.mem_append,z06,this]
 unfold AddP
 constructor
 ·rintro ((h1|h1)|⟨h1,_⟩)
  ·exact .inl h1
  ·exact .inr (.inr h1)
  ·exact .inr (.inl (.inr ⟨e,e',h1⟩))
 ·rintro (h1|(h1|h1)|h1)
  ·exact .inl (.inl h1)
  ·omega
  ·exact .inr ⟨h1.2.2,hv⟩
  ·exact .inl (.inr h1)
def qa6 (n:Nat):List Int:=(List.range n).map fun (i:Nat)=>(i:Int)
theorem StackOk.root {d:FD} (h:TreeOk d.nd d.nn) {n:Nat} (hp:d.params=n):StackOk d (d.nn-1) (qa6 n):=fun v hv=>by
 unfold Scoped qa6
 simp only[List.mem_map,List.mem_range]
 constructor
 ·rintro ⟨i,h1,rfl⟩
  exact .inl (by omega)
 ·rintro (h1|h1)
  ·exact ⟨v.toNat,by have:=hv.1;omega,by have:=hv.1;omega⟩
  ·exact absurd h1 (Vis.root h)
def q69 (u:UD) (f x:Nat) (y:FT):Prop:=y.f=f/\y.n=x/\
 ((y.c=6/\((((u.fn f).nd x).k=26/\¬(InR (((u.fn f).nd x).r 0) (u.fn f).vn/\Scoped (u.fn f) x (((u.fn f).nd x).r 0)))
   \/(((u.fn f).nd x).k=27/\¬InR (((u.fn f).nd x).r 0) (u.fn f).un)
   \/(((u.fn f).nd x).k=36/\¬InR (((u.fn f).nd x).r 0) u.n)))
  \/(y.c=7/\qa3 (u.fn f) x)\/(y.c=8/\qa2 u f x))
def zj3 (u:UD) (f x:Nat) (y:FT):Prop:=y.c=6/\y.f=f/\y.n=x/\qc8 ((u.fn f).nd x).k/\∃ j,j<((u.fn f).nd x).rn/\¬(InR (((u.fn f).nd x).r j) (u.fn f).vn/\¬q78 (u.fn f) x j (((u.fn f).nd x).r j))
def qv2 (u:UD) (f:Nat) (y:FT):Prop:=∃ x,x<(u.fn f).nn/\(q69 u f x y\/zj3 u f x y)
def qv1 (u:UD) (y:FT):Prop:=(y.c=8/\y.f<u.n/\y.n<(u.fn y.f).nn/\q54 u y.f y.n)\/Bad9 u y
theorem zw8 (u:UD) (y:FT):((∃ f,f<u.n/\qv2 u f y)\/qv1 u y)↔BadS u y:=by
 constructor
 ·rintro (⟨f,hf,x,hx,h|h⟩|h|h)
  ·obtain ⟨rfl,rfl,h⟩:=h
   rcases h with ⟨h0,h⟩|⟨h0,h⟩|⟨h0,h⟩
   ·refine .inl ⟨h0,hf,hx,fun hr=>?_⟩
    rcases h with ⟨h1,h2⟩|⟨h1,h2⟩|⟨h1,h2⟩
    ·exact h2 (hr.2.2.1 h1)
    ·exact h2 (hr.1 h1)
    ·exact h2 (hr.2.1 h1)
   ·exact .inr (.inl ⟨h0,hf,hx,h⟩)
   ·exact .inr (.inr (.inl ⟨h0,hf,hx,.inl h⟩))
  ·obtain ⟨h0,rfl,rfl,h1,j,hj,h2⟩:=h
   exact .inl ⟨h0,hf,hx,fun hr=>h2 (hr.2.2.2 h1 j hj)⟩
  ·exact .inr (.inr (.inl ⟨h.1,h.2.1,h.2.2.1,.inr h.2.2.2⟩))
  ·exact .inr (.inr (.inr h))
 ·rintro (⟨h0,hf,hx,h⟩|⟨h0,hf,hx,h⟩|⟨h0,hf,hx,h|h⟩|h)
  ·refine Classical.byContradiction fun hn=>h ?_
   have hA:¬q69 u y.f y.n y:=fun h=>hn (.inl ⟨_,hf,_,hx,.inl h⟩)
   have hD:¬zj3 u y.f y.n y:=fun h=>hn (.inl ⟨_,hf,_,hx,.inr h⟩)
   refine ⟨fun h1=>Classical.byContradiction fun h2=>hA ⟨rfl,rfl,.inl ⟨h0,.inr (.inl ⟨h1,h2⟩)⟩⟩,fun h1=>Classical.byContradiction fun h2=>hA ⟨rfl,rfl,.inl ⟨h0,.inr (.inr ⟨h1,h2⟩)⟩⟩,fun h1=>Classical.byContradiction fun h2=>hA ⟨rfl,rfl,.inl ⟨h0,.inl ⟨h1,h2⟩⟩⟩,fun h1 j hj=>Classical.byContradiction fun h2=>hD ⟨h0,rfl,rfl,h1,j,hj,h2⟩⟩
  ·exact .inl ⟨_,hf,_,hx,.inl ⟨rfl,rfl,.inr (.inl ⟨h0,h⟩)⟩⟩
  ·exact .inl ⟨_,hf,_,hx,.inl ⟨rfl,rfl,.inr (.inr ⟨h0,h⟩)⟩⟩
  ·exact .inr (.inl ⟨h0,hf,hx,h⟩)
  ·exact .inr (.inr h)
def q60 (u:UD) (f x:Nat) (y:FT):Prop:=∃ z,Sub (u.fn f).nd x z/\q69 u f z y
def qc6 (u:UD) (f x j:Nat) (y:FT):Prop:=∃ i c:Nat,i<j/\((u.fn f).nd x).c i=(c:Int)/\q60 u f c y
theorem qb5 (u:UD) (f x:Nat) (y:FT):q60 u f x y↔qc6 u f x ((u.fn f).nd x).kn y\/q69 u f x y:=by
 constructor
 ·rintro ⟨z,h,h2⟩
  cases h with
  |self=>exact .inr h2
  |kid _ j c _ hj hc h3=>exact .inl ⟨j,c,hj,hc,z,h3,h2⟩
 ·rintro (⟨i,c,h1,h2,z,h3,h4⟩|h)
  ·exact ⟨z,.kid x i c z h1 h2 h3,h4⟩
  ·exact ⟨x,.self x,h⟩
theorem qj8 (u:UD) (f x:Nat) (y:FT):¬qc6 u f x 0 y:=by rintro ⟨i,c,h1,_⟩;omega
theorem qb6 (u:UD) (f x j c:Nat) (hc:((u.fn f).nd x).c j=(c:Int)) (y:FT):qc6 u f x (j+1) y↔qc6 u f x j y\/q60 u f c y:=by
 constructor
 ·rintro ⟨i,c',h1,h2,h3⟩
  by_cases e:i=j
  ·subst e
   have:c'=c:=by omega
   subst this
   exact .inr h3
  ·exact .inl ⟨i,c',by omega,h2,h3⟩
 ·rintro (⟨i,c',h1,h2,h3⟩|h)
  ·exact ⟨i,c',by omega,h2,h3⟩
  ·exact ⟨j,c,by omega,hc,h⟩
theorem zp3 (u:UD) (f:Nat) (h:TreeOk (u.fn f).nd (u.fn f).nn) (y:FT):q60 u f ((u.fn f).nn-1) y↔∃ x,x<(u.fn f).nn/\q69 u f x y:=by
 have hpos:=h.pos
 constructor
 ·rintro ⟨z,h1,h2⟩
  refine ⟨z,?_,h2⟩
  have:∀ p x,Sub (u.fn f).nd p x->p<(u.fn f).nn->x<(u.fn f).nn:=by
   intro p x hs
   induction hs with
   |self _=>exact id
   |kid p j c x hj hc _ ih=>exact fun hp=>ih (by have:=h.kids p hp j hj;omega)
  exact this _ _ h1 (by omega)
 ·rintro ⟨x,h1,h2⟩
  exact ⟨x,h.all ((u.fn f).nn-1 - x) x (by omega),h2⟩
end Go.Proofs.YtaimofjekgnieaaGreatDoor
namespace Go.Proofs.YtaimofjekgnieaaGreatDoor
open Go.RowKit
attribute [local go_sem] q00
attribute [local go_sem ↓] Go.wp_at_zero Go.wp_at_succ
def blkB (nd:Nat->ND) (m:Nat):Bool:=decide (0<(nd m).kn) && kidK nd m ((nd m).kn-1)==1
def stBs (nd:Nat->ND) (m:Nat):Bool:=
 if (nd m).k=1 then allB (fun i=>stK (kidK nd m i)) 0 (nd m).kn && q38 (nd m) false false false false 0
 else if (nd m).k=2 then decide (0<(nd m).rn) && q38 (nd m) false false false false (nd m).rn && exsB nd m 0 (nd m).kn
 else if (nd m).k=3 then !(decide ((nd m).n<1) || decide (((nd m).kn:Int)<=(nd m).n)) && allB (fun i=>tgK (kidK nd m i)) 0 (nd m).n.toNat && q38 (nd m) false true false false 0 && exsB nd m (nd m).n.toNat (nd m).kn
 else if (nd m).k=4\/(nd m).k=14 then ((nd m).kn:Int)==1 && kidK nd m 0==34 && q38 (nd m) false false false false 0
 else if (nd m).k=5 then (((nd m).kn:Int)==2 || ((nd m).kn:Int)==3 && (kidK nd m 2==1 || kidK nd m 2==5)) && exsB nd m 0 1 && kidK nd m 1==1 && q38 (nd m) false false false false 0
 else if (nd m).k=6 then ((nd m).kn:Int)==2 && exsB nd m 0 1 && blkB nd m && q38 (nd m) false false false false 0
 else if (nd m).k=7 then ((nd m).kn:Int)==4 && exsB nd m 0 3 && blkB nd m && q38 (nd m) false false false false 1
 else if (nd m).k=8 then ((nd m).kn:Int)==2 && decide ((1:Int)<=(nd m).rn) && decide (((nd m).rn:Int)<=4) && exsB nd m 0 1 && blkB nd m && q38 (nd m) false false false false (nd m).rn
 else if (nd m).k=9\/(nd m).k=10 then ((nd m).kn:Int)==0 && q38 (nd m) false false false false 0
 else if (nd m).k=11 then exsB nd m 0 (nd m).kn && q38 (nd m) false false false false 0
 else if (nd m).k=12 then ((nd m).kn:Int)==2 && kidK nd m 0==1 && blkB nd m && q38 (nd m) false false false false 2
 else if (nd m).k=13 then ((nd m).kn:Int)==1 && exsB nd m 0 1 && q38 (nd m) false false false false 0
 else false
def nnB (f:Nat):Bool:=FloatKind.f64.format.order f f==some .eq
def epB (nd:Nat->ND) (m:Nat):Bool:=
 if (nd m).k=20\/(nd m).k=21\/(nd m).k=22\/(nd m).k=37 then ((nd m).kn:Int)==0 && q38 (nd m) false false false false 0
 else if (nd m).k=23 then ((nd m).kn:Int)==0 && q38 (nd m) false true false false 0
 else if (nd m).k=24 then ((nd m).kn:Int)==0 && nnB (nd m).f && q38 (nd m) false false true false 0
 else if (nd m).k=25 then ((nd m).kn:Int)==0 && decide (((nd m).s.size:Int)<=4000) && q38 (nd m) false false false true 0
 else if (nd m).k=26\/(nd m).k=27\/(nd m).k=36 then ((nd m).kn:Int)==0 && q38 (nd m) false false false false 1
 else if (nd m).k=28 then ((nd m).kn:Int)==0 && decide (0<=(nd m).n) && decide ((nd m).n<15) && q38 (nd m) false true false false 0
 else if (nd m).k=29\/(nd m).k=30\/(nd m).k=33 then ((nd m).kn:Int)==2 && exsB nd m 0 (nd m).kn && q38 (nd m) false false false false 0
 else if (nd m).k=31 then ((nd m).kn:Int)==1 && exsB nd m 0 (nd m).kn && decide (19<=(nd m).o) && decide ((nd m).o<=22) && q38 (nd m) true false false false 0
 else if (nd m).k=32 then ((nd m).kn:Int)==2 && exsB nd m 0 (nd m).kn && decide (1<=(nd m).o) && decide ((nd m).o<=18) && q38 (nd m) true false false false 0
 else if (nd m).k=34 then decide ((1:Int)<=(nd m).kn) && exsB nd m 0 (nd m).kn && q38 (nd m) false false false false 0
 else if (nd m).k=35 then ((nd m).kn:Int)%2==0 && exsB nd m 0 (nd m).kn && ((nd m).o==0 || (nd m).o==1 && decide ((2:Int)<=(nd m).kn) && kidK nd m ((nd m).kn-2)==23 && mnK (kidK nd m ((nd m).kn-1))) && q38 (nd m) true false false false 0
 else if (nd m).k=38 then ((nd m).kn:Int)==1 && mnK (kidK nd m 0) && q38 (nd m) false false false false 0
 else false
def shB (nd:Nat->ND) (m:Nat):Bool:=
 !decide ((200:Int)<(nd m).kn) && allB (fun i=>!(decide ((nd m).c i<0) || decide ((m:Int)<=(nd m).c i))) 0 (nd m).kn &&
  (if stK (nd m).k then decide (1<=(nd m).l) && decide ((nd m).l<=100000) && stBs nd m else (nd m).l==0 && epB nd m)
end Go.Proofs.YtaimofjekgnieaaGreatDoor
namespace Go.Proofs.YtaimofjekgnieaaGreatDoor
theorem q58 {d:ND} {o n f s:Bool} {r:Int} (h:q38 d o n f s r=true):(d.rn:Int)=r:=by
 unfold q38 zi5 at h
 simp only[Bool.and_eq_true,beq_iff_eq] at h
 exact h.2
theorem q99 {nd:Nat->ND} {m lo hi i:Nat} (h:exsB nd m lo hi=true) (h1:lo<=i) (h2:i<hi):exK (kidK nd m i)=true:=allB_true.1 h i h1 h2
theorem qa0 {k:Int} (h:exK k=true):k≠2:=by
 unfold exK at h
 simp at h
 omega
theorem yd3 {nd:Nat->ND} {m:Nat} (h:shB nd m=true):(nd m).kn<=200/\∀ j,j<(nd m).kn->0<=(nd m).c j/\(nd m).c j<m:=by
 unfold shB at h
 simp only[Bool.and_eq_true] at h
 obtain ⟨⟨h1,h2⟩,_⟩:=h
 refine ⟨by simp at h1;omega,fun j hj=>?_⟩
 have:=allB_true.1 h2 j (Nat.zero_le _) hj
 simp at this
 omega
theorem yf2 {nd:Nat->ND} {m j:Nat} (h:∀ j,j<(nd m).kn->0<=(nd m).c j/\(nd m).c j<m) (hj:j<(nd m).kn):kidK nd m j=(nd ((nd m).c j).toNat).k:=by
 unfold kidK
 rw[if_pos hj,if_pos (h j hj)]
structure ShF (nd:Nat->ND) (m:Nat):Prop where
 kids:∀ j,j<(nd m).kn->0<=(nd m).c j/\(nd m).c j<m
 kn:(nd m).kn<=200
 kind:(1<=(nd m).k/\(nd m).k<=14)\/(20<=(nd m).k/\(nd m).k<=38)
 one:(nd m).k=26\/(nd m).k=27\/(nd m).k=36\/(nd m).k=7->(nd m).rn=1
 try2:(nd m).k=12->(nd m).rn=2
 refs:(nd m).rn≠0->(nd m).k=2\/(nd m).k=7\/(nd m).k=8\/(nd m).k=12\/(nd m).k=26\/(nd m).k=27\/(nd m).k=36
 two:(nd m).k=6\/(nd m).k=8\/(nd m).k=12->(nd m).kn=2
 four:(nd m).k=7->(nd m).kn=4
 leaf:(nd m).k=9\/(nd m).k=10\/(nd m).k=26\/(nd m).k=27\/(nd m).k=36\/(nd m).k=37->(nd m).kn=0
 lets:(nd m).k≠1->∀ j,j<(nd m).kn->(nd ((nd m).c j).toNat).k≠2
theorem z36 {nd:Nat->ND} {m:Nat} (h:blkB nd m=true) {j:Nat} (hj:j+1=(nd m).kn):kidK nd m j≠2:=by
 unfold blkB at h
 simp only[Bool.and_eq_true,beq_iff_eq] at h
 have:(nd m).kn-1=j:=by omega
 rw[this] at h
 omega
theorem y45 {nd:Nat->ND} {m:Nat} (h:shB nd m=true):ShF nd m:=by
 obtain ⟨hkn,hk⟩:=yd3 h
 have hke:∀ j,j<(nd m).kn->kidK nd m j=(nd ((nd m).c j).toNat).k:=fun j hj=>yf2 hk hj
 have h3:(if stK (nd m).k then decide (1<=(nd m).l) && decide ((nd m).l<=100000) && stBs nd m else (nd m).l==0 && epB nd m)=true:=by
  unfold shB at h
  rw[Bool.and_eq_true] at h
  exact h.2
 clear h
 by_cases hs:stK (nd m).k=true
 ·rw[if_pos hs,Bool.and_eq_true] at h3
  have h:=h3.2
  clear h3
  have hr:1<=(nd m).k/\(nd m).k<=14:=by unfold stK at hs;simp at hs;exact hs
  unfold stBs at h
  rcases (show (nd m).k=1\/(nd m).k=2\/(nd m).k=3\/(nd m).k=4\/(nd m).k=5\/(nd m).k=6\/(nd m).k=7\/(nd m).k=8\/(nd m).k=9\/(nd m).k=10\/(nd m).k=11\/(nd m).k=12\/(nd m).k=13\/(nd m).k=14 by omega) with e|e|e|e|e|e|e|e|e|e|e|e|e|e<;>(simp only[e] at h;simp only[Int.reduceEq,if_true,if_false,Bool.and_eq_true,Bool.or_eq_true,or_false,or_true,beq_iff_eq] at h)
  ·have b:=q58 h.2
   exact ⟨hk,hkn,.inl hr,fun h=>by omega,fun h=>by omega,fun h=>by omega,fun h=>by omega,fun h=>by omega,fun h=>by omega,fun h=>absurd e h⟩
  ·exact ⟨hk,hkn,.inl hr,fun h=>by omega,fun h=>by omega,fun h=>by omega,fun h=>by omega,fun h=>by omega,fun h=>by omega,fun _ j hj=>by rw[<-hke j hj];exact qa0 (q99 h.2 (Nat.zero_le _) hj)⟩
  ·have b:=q58 h.1.2
   refine ⟨hk,hkn,.inl hr,fun h=>by omega,fun h=>by omega,fun h=>by omega,fun h=>by omega,fun h=>by omega,fun h=>by omega,fun _ j hj=>?_⟩
   rw[<-hke j hj]
   by_cases hj2:j<(nd m).n.toNat
   ·have:=allB_true.1 h.1.1.2 j (Nat.zero_le _) hj2
    unfold tgK at this
    simp at this
    omega
   ·exact qa0 (q99 h.2 (by omega) hj)
  ·have b:=q58 h.2
   refine ⟨hk,hkn,.inl hr,fun h=>by omega,fun h=>by omega,fun h=>by omega,fun h=>by omega,fun h=>by omega,fun h=>by omega,fun _ j hj=>?_⟩
   obtain rfl:j=0:=by omega
   rw[<-hke 0 hj]
   omega
  ·have b:=q58 h.2
   refine ⟨hk,hkn,.inl hr,fun h=>by omega,fun h=>by omega,fun h=>by omega,fun h=>by omega,fun h=>by omega,fun h=>by omega,fun _ j hj=>?_⟩
   rw[<-hke j hj]
   have h0:=qa0 (q99 (i:=0) h.1.1.2 (Nat.zero_le _) (by omega))
   rcases (show j=0\/j=1\/j=2 by omega) with rfl|rfl|rfl
   ·exact h0
   ·omega
   ·omega
  ·have b:=q58 h.2
   refine ⟨hk,hkn,.inl hr,fun h=>by omega,fun h=>by omega,fun h=>by omega,fun h=>by omega,fun h=>by omega,fun h=>by omega,fun _ j hj=>?_⟩
   rw[<-hke j hj]
   rcases (show j=0\/j+1=(nd m).kn by omega) with rfl|hj2
   ·exact qa0 (q99 (i:=0) h.1.1.2 (Nat.zero_le _) (by omega))
   ·exact z36 h.1.2 hj2
  ·have b:=q58 h.2
   refine ⟨hk,hkn,.inl hr,fun h=>by omega,fun h=>by omega,fun h=>by omega,fun h=>by omega,fun h=>by omega,fun h=>by omega,fun _ j hj=>?_⟩
   rw[<-hke j hj]
   rcases (show j<3\/j+1=(nd m).kn by omega) with hj2|hj2
   ·exact qa0 (q99 h.1.1.2 (Nat.zero_le _) hj2)
   ·exact z36 h.1.2 hj2
  ·have b:=q58 h.2
   refine ⟨hk,hkn,.inl hr,fun h=>by omega,fun h=>by omega,fun h=>by omega,fun h=>by omega,fun h=>by omega,fun h=>by omega,fun _ j hj=>?_⟩
   rw[<-hke j hj]
   rcases (show j=0\/j+1=(nd m).kn by omega) with rfl|hj2
   ·exact qa0 (q99 (i:=0) h.1.1.2 (Nat.zero_le _) (by omega))
   ·exact z36 h.1.2 hj2
  ·have b:=q58 h.2
   exact ⟨hk,hkn,.inl hr,fun h=>by omega,fun h=>by omega,fun h=>by omega,fun h=>by omega,fun h=>by omega,fun h=>by omega,fun _ j hj=>by omega⟩
  ·have b:=q58 h.2
   exact ⟨hk,hkn,.inl hr,fun h=>by omega,fun h=>by omega,fun h=>by omega,fun h=>by omega,fun h=>by omega,fun h=>by omega,fun _ j hj=>by omega⟩
  ·have b:=q58 h.2
   exact ⟨hk,hkn,.inl hr,fun h=>by omega,fun h=>by omega,fun h=>by omega,fun h=>by omega,fun h=>by omega,fun h=>by omega,fun _ j hj=>by rw[<-hke j hj];exact qa0 (q99 h.1 (Nat.zero_le _) hj)⟩
  ·have b:=q58 h.2
   refine ⟨hk,hkn,.inl hr,fun h=>by omega,fun h=>by omega,fun h=>by omega,fun h=>by omega,fun h=>by omega,fun h=>by omega,fun _ j hj=>?_⟩
   rw[<-hke j hj]
   rcases (show j=0\/j+1=(nd m).kn by omega) with rfl|hj2
   ·omega
   ·exact z36 h.1.2 hj2
  ·have b:=q58 h.2
   refine ⟨hk,hkn,.inl hr,fun h=>by omega,fun h=>by omega,fun h=>by omega,fun h=>by omega,fun h=>by omega,fun h=>by omega,fun _ j hj=>?_⟩
   rw[<-hke j hj]
   exact qa0 (q99 h.1.2 (Nat.zero_le _) (by omega))
  ·have b:=q58 h.2
   refine ⟨hk,hkn,.inl hr,fun h=>by omega,fun h=>by omega,fun h=>by omega,fun h=>by omega,fun h=>by omega,fun h=>by omega,fun _ j hj=>?_⟩
   obtain rfl:j=0:=by omega
   rw[<-hke 0 hj]
   omega
 ·rw[if_neg hs,Bool.and_eq_true] at h3
  have h:=h3.2
  clear h3
  unfold epB at h
  have hr:20<=(nd m).k/\(nd m).k<=38:=by
   refine Classical.byContradiction fun hn=>?_
   have hf:∀ {p:Prop} [Decidable p] {a b:Bool},¬p->(if p then a else b)=true->b=true:=fun hp h=>by rwa [if_neg hp] at h
   exact absurd (hf (by omega) (hf (by omega) (hf (by omega) (hf (by omega) (hf (by omega) (hf (by omega) (hf (by omega) (hf (by omega) (hf (by omega) (hf (by omega) (hf (by omega) (hf (by omega) h)))))))))))) (by decide)
  rcases (show (nd m).k=20\/(nd m).k=21\/(nd m).k=22\/(nd m).k=23\/(nd m).k=24\/(nd m).k=25\/(nd m).k=26\/(nd m).k=27\/(nd m).k=28\/(nd m).k=29\/(nd m).k=30\/(nd m).k=31\/(nd m).k=32\/(nd m).k=33\/(nd m).k=34\/(nd m).k=35\/(nd m).k=36\/(nd m).k=37\/(nd m).k=38 by omega) with e|e|e|e|e|e|e|e|e|e|e|e|e|e|e|e|e|e|e<;>(simp only[e] at h;simp only[Int.reduceEq,if_true,if_false,Bool.and_eq_true,or_false,or_true,beq_iff_eq] at h)
  all_goals
   have b:=q58 h.2
   refine ⟨hk,hkn,.inr hr,fun h=>by omega,fun h=>by omega,fun h=>by omega,fun h=>by omega,fun h=>by omega,fun h=>by omega,fun _ j hj=>?_⟩
  all_goals first
   |omega
   |(rw[<-hke j hj];exact qa0 (q99 h.1.2 (Nat.zero_le _) hj))
   |(rw[<-hke j hj];exact qa0 (q99 h.1.1.2 (Nat.zero_le _) hj))
   |(rw[<-hke j hj];exact qa0 (q99 h.1.1.1.2 (Nat.zero_le _) hj))
   |(obtain rfl:j=0:=by omega
     rw[<-hke 0 hj]
     have h1:=h.1.2
     unfold mnK at h1
     simp at h1
     omega)
def At2 (C U:Nat) (N:Nat->Nat) (bad:Nat->Nat->Prop) (y:FT):Prop:=y.c=C/\y.f<U/\y.n<N y.f/\bad y.f y.n
theorem At2.least {C U:Nat} {N:Nat->Nat} {bad:Nat->Nat->Prop} {f n:Nat} (hC:0<C) (h1:∀ f',f'<f->∀ n',n'<N f'->¬bad f' n') (h2:∀ n',n'<n->¬bad f n') (hf:f<U) (hn:n<N f) (hb:bad f n):Least (At2 C U N bad) ⟨C,f,n⟩:=by
 refine .inr ⟨hC,⟨rfl,hf,hn,hb⟩,fun y hy=>?_⟩
 obtain ⟨a,b,c,d⟩:=hy
 refine .inr ⟨a.symm,?_⟩
 by_cases e:y.f<f
 ·exact absurd d (h1 _ e _ c)
 ·by_cases e2:y.f=f
  ·refine .inr ⟨e2.symm,?_⟩
   by_cases e3:y.n<n
   ·rw[e2] at d
    exact absurd d (h2 _ e3)
   ·exact Nat.le_of_not_lt e3
  ·exact .inl (by show f<y.f;omega)
theorem At2.none {C U:Nat} {N:Nat->Nat} {bad:Nat->Nat->Prop} (h:∀ f,f<U->∀ n,n<N f->¬bad f n):∀ y,¬At2 C U N bad y:=fun _ hy=>h _ hy.2.1 _ hy.2.2.1 hy.2.2.2
theorem At2.no {C U:Nat} {N:Nat->Nat} {bad:Nat->Nat->Prop} (h:∀ y,¬At2 C U N bad y):∀ f,f<U->∀ n,n<N f->¬bad f n:=fun f hf n hn hb=>h ⟨C,f,n⟩ ⟨rfl,hf,hn,hb⟩
def tot (fn:Nat->FD):Nat->Nat
 |0=>0
 |k+1=>tot fn k+(fn k).nn
def qj4 (u:UD):Prop:=1<=u.n/\u.n<=300/\tot u.fn u.n<=3000
def qg3 (u:UD) (f:Nat):Prop:=((u.fn f).nn≠0/\(u.fn f).vn<=200/\(u.fn f).un<=200/\0<=(u.fn f).params/\(u.fn f).params<=(u.fn f).vn)
 /\(0<=(u.fn f).line/\(u.fn f).line<=100000/\(u.fn f).name.size<=40/\(f=0->(u.fn f).params=0/\(u.fn f).un=0))
 /\∀ i,i<(u.fn f).vn->1<=((u.fn f).v i).size/\((u.fn f).v i).size<=40
def Bad1 (u:UD):FT->Prop:=At2 1 1 (fun _=>1) (fun _ _=>¬qj4 u)
def Bad2 (u:UD):FT->Prop:=At2 2 u.n (fun _=>1) (fun f _=>¬qg3 u f)
def Bad3 (u:UD):FT->Prop:=At2 3 u.n (fun f=>(u.fn f).nn) (fun f n=>shB (u.fn f).nd n=false)
def Bad4 (u:UD):FT->Prop:=At2 4 u.n (fun f=>(u.fn f).nn) (fun f n=>(n<(u.fn f).nn-1/\parP (u.fn f).nd (u.fn f).nn n<0)\/(n=(u.fn f).nn-1/\((u.fn f).nd n).k≠1))
def Bad5 (u:UD):FT->Prop:=At2 5 u.n (fun f=>(u.fn f).nn) (fun f n=>100<depP (parP (u.fn f).nd (u.fn f).nn) (u.fn f).nn ((u.fn f).nn-1) n)
def BadU (u:UD) (y:FT):Prop:=Bad1 u y\/Bad2 u y\/Bad3 u y\/Bad4 u y\/Bad5 u y\/BadS u y
theorem y23 {u:UD} {y:FT} (h:BadS u y):6<=y.c:=by
 rcases h with h|h|h|h<;>(have:=h.1;omega)
structure U3 (u:UD):Prop where
 size:qj4 u
 head:∀ f,f<u.n->qg3 u f
 form:∀ f,f<u.n->∀ n,n<(u.fn f).nn->shB (u.fn f).nd n=true
theorem U3.facts {u:UD} (h:U3 u) {f:Nat} (hf:f<u.n) {n:Nat} (hn:n<(u.fn f).nn):ShF (u.fn f).nd n:=y45 (h.form f hf n hn)
theorem U3.kids {u:UD} (h:U3 u) {f:Nat} (hf:f<u.n):q79 (u.fn f).nd (u.fn f).nn:=fun _ hi j hj=>(h.facts hf hi).kids j hj
theorem zt2 (fn:Nat->FD):∀ (n k:Nat),k<n->(fn k).nn<=tot fn n
 |0,_,h=>by omega
 |n+1,k,h=>by
  unfold tot
  by_cases e:k=n
  ·subst e;omega
  ·have:=zt2 fn n k (by omega);omega
theorem U3.nn {u:UD} (h:U3 u) {f:Nat} (hf:f<u.n):(u.fn f).nn<=3000/\0<(u.fn f).nn:=by
 have h1:=zt2 u.fn u.n f hf
 have h2:=h.size.2.2
 have h3:=(h.head f hf).1.1
 omega
structure U5 (u:UD):Prop extends U3 u where
 tree:∀ f,f<u.n->TreeOk (u.fn f).nd (u.fn f).nn
theorem yb9 {u:UD} (h1:∀ y,¬Bad1 u y) (h2:∀ y,¬Bad2 u y) (h3:∀ y,¬Bad3 u y):U3 u:=by
 refine ⟨?_,fun f hf=>?_,fun f hf n hn=>?_⟩
 ·exact Classical.byContradiction fun h=>At2.no h1 0 (by omega) 0 (by omega) h
 ·exact Classical.byContradiction fun h=>At2.no h2 f hf 0 (by omega) h
 ·have:=At2.no h3 f hf n hn
  simpa using this
theorem yi9 {u:UD} (h:U3 u) (h4:∀ y,¬Bad4 u y):U5 u:=by
 refine ⟨h,fun f hf=>⟨(h.nn hf).2,h.kids hf,fun x hx=>?_,?_⟩⟩
 ·have:=At2.no h4 f hf x (by omega)
  omega
 ·have hp:=(h.nn hf).2
  have:=At2.no h4 f hf ((u.fn f).nn-1) (by omega)
  omega
def setB (s:Nat) (k:Int):Bool:=decide (0<=k) && Nat.testBit s k.toNat
def kidS (s:Nat) (nd:Nat->ND) (m:Nat) (c:Int):Bool:=decide (0<=c) && decide (c<m) && setB s (nd c.toNat).k
abbrev sBl:Nat:=2
abbrev sEl:Nat:=34
abbrev sTg:Nat:=8791261184
abbrev sCa:Nat:=17179869184
abbrev sLi:Nat:=154618822656
abbrev sSt:Nat:=32766
abbrev sEx:Nat:=549754765312
abbrev sIn:Nat:=8388608
theorem y22 {s:Nat} (h:s<2 ^ 64) {k:Nat} (hk:64<=k):Nat.testBit s k=false:=
 Nat.testBit_lt_two_pow (Nat.lt_of_lt_of_le h (Nat.pow_le_pow_right (by omega) hk))
theorem qc2 (s:Nat) (h:s<2 ^ 64) (p:Int->Bool) (hp:∀ k:Nat,k<64->Nat.testBit s k=p k) (hq:∀ k:Int,p k=true->0<=k/\k<64) (k:Int):setB s k=p k:=by
 unfold setB
 by_cases h0:0<=k
 ·by_cases h1:k<64
  ·obtain ⟨j,rfl⟩:∃ j:Nat,k=j:=⟨k.toNat,by omega⟩
   rw[Int.toNat_natCast,hp j (by omega)]
   simp
  ·rw[y22 h (by omega),Bool.and_false]
   cases e:p k
   ·rfl
   ·have:=hq k e;omega
 ·cases e:p k
  ·simp[h0]
  ·have:=hq k e;omega
theorem zu3 (k:Int):setB sSt k=stK k:=qc2 _ (by decide) _ (by decide) (fun k h=>by unfold stK at h;simp at h;omega) k
theorem zf1 (k:Int):setB sEx k=exK k:=qc2 _ (by decide) _ (by decide) (fun k h=>by unfold exK at h;simp at h;omega) k
theorem yk2 (k:Int):setB sTg k=tgK k:=qc2 _ (by decide) _ (by decide) (fun k h=>by unfold tgK at h;simp at h;omega) k
theorem yo7 (k:Int):setB sLi k=mnK k:=qc2 _ (by decide) _ (by decide) (fun k h=>by unfold mnK at h;simp at h;omega) k
theorem yp2 (k:Int):setB sBl k=(k==1):=qc2 _ (by decide) (·==1) (by decide) (fun k h=>by simp at h;omega) k
theorem yo9 (k:Int):setB sEl k=(k==1 || k==5):=qc2 _ (by decide) (fun k=>k==1 || k==5) (by decide) (fun k h=>by simp at h;omega) k
theorem yp1 (k:Int):setB sCa k=(k==34):=qc2 _ (by decide) (·==34) (by decide) (fun k h=>by simp at h;omega) k
theorem yo8 (k:Int):setB sIn k=(k==23):=qc2 _ (by decide) (·==23) (by decide) (fun k h=>by simp at h;omega) k
theorem qq8 {s:Nat} {p:Int->Bool} (hs:∀ k,setB s k=p k) (h0:p 0=false) {nd:Nat->ND} {m i:Nat} (hi:i<(nd m).kn):p (kidK nd m i)=kidS s nd m ((nd m).c i):=by
 unfold kidK kidS
 rw[if_pos hi,hs]
 by_cases h:0<=(nd m).c i/\(nd m).c i<m
 ·rw[if_pos h];simp[h.1,h.2]
 ·rw[if_neg h,h0]
  by_cases h1:0<=(nd m).c i
  ·have:¬(nd m).c i<m:=fun h2=>h ⟨h1,h2⟩
   simp[this]
  ·simp[h1]
theorem zr4 {p q:Nat->Bool} {lo hi:Nat} (h:∀ i,lo<=i->i<hi->p i=q i):allB p lo hi=allB q lo hi:=by
 rw[Bool.eq_iff_iff,allB_true,allB_true]
 exact ⟨fun k i a b=>by rw[<-h i a b];exact k i a b,fun k i a b=>by rw[h i a b];exact k i a b⟩
def uoB (a:ND) (o n f s r k:Bool):Bool:=(o || a.o==0) && (n || a.n==0) && (f || fz a.f) && (s || se a.s) && (r || (a.rn:Int)==0) && (k || (a.kn:Int)==0)
def allS (s:Nat) (nd:Nat->ND) (m lo hi:Nat):Bool:=allB (fun i=>kidS s nd m ((nd m).c i)) lo hi
def atS (s:Nat) (nd:Nat->ND) (m i:Nat):Bool:=kidS s nd m ((nd m).c i)
def fkB (nd:Nat->ND) (m:Nat):Bool:=
 if (nd m).k=1 then uoB (nd m) false false false false false true && allS sSt nd m 0 (nd m).kn
 else if (nd m).k=2 then uoB (nd m) false false false false true true && decide (0<(nd m).rn) && allS sEx nd m 0 (nd m).kn
 else if (nd m).k=3 then uoB (nd m) false true false false false true && decide (0<(nd m).n) && decide ((nd m).n<(nd m).kn) && allS sTg nd m 0 (nd m).n.toNat && allS sEx nd m (nd m).n.toNat (nd m).kn
 else if (nd m).k=4\/(nd m).k=14 then uoB (nd m) false false false false false true && (((nd m).kn:Int)==1 && atS sCa nd m 0)
 else if (nd m).k=5 then uoB (nd m) false false false false false true && (((nd m).kn:Int)==2 && atS sEx nd m 0 && atS sBl nd m 1 || ((nd m).kn:Int)==3 && atS sEx nd m 0 && atS sBl nd m 1 && atS sEl nd m 2)
 else if (nd m).k=6 then uoB (nd m) false false false false false true && (((nd m).kn:Int)==2 && atS sEx nd m 0 && atS sBl nd m 1)
 else if (nd m).k=7 then uoB (nd m) false false false false true true && ((nd m).rn:Int)==1 && (((nd m).kn:Int)==4 && atS sEx nd m 0 && atS sEx nd m 1 && atS sEx nd m 2 && atS sBl nd m 3)
 else if (nd m).k=8 then uoB (nd m) false false false false true true && (decide ((1:Int)<=(nd m).rn) && decide (((nd m).rn:Int)<=4)) && (((nd m).kn:Int)==2 && atS sEx nd m 0 && atS sBl nd m 1)
 else if (nd m).k=11 then uoB (nd m) false false false false false true && allS sEx nd m 0 (nd m).kn
 else if (nd m).k=12 then uoB (nd m) false false false false true true && ((nd m).rn:Int)==2 && (((nd m).kn:Int)==2 && atS sBl nd m 0 && atS sBl nd m 1)
 else if (nd m).k=13 then uoB (nd m) false false false false false true && (((nd m).kn:Int)==1 && atS sEx nd m 0)
 else if (nd m).k=9\/(nd m).k=10\/(nd m).k=20\/(nd m).k=21\/(nd m).k=22\/(nd m).k=37 then uoB (nd m) false false false false false false
 else if (nd m).k=23 then uoB (nd m) false true false false false false
 else if (nd m).k=24 then uoB (nd m) false false true false false false && nnB (nd m).f
 else if (nd m).k=25 then uoB (nd m) false false false true false false && decide (((nd m).s.size:Int)<=4000)
 else if (nd m).k=26\/(nd m).k=27\/(nd m).k=36 then uoB (nd m) false false false false true false && ((nd m).rn:Int)==1
 else if (nd m).k=28 then uoB (nd m) false true false false false false && decide (0<=(nd m).n) && decide ((nd m).n<15)
 else if (nd m).k=29\/(nd m).k=30\/(nd m).k=33 then uoB (nd m) false false false false false true && (((nd m).kn:Int)==2 && atS sEx nd m 0 && atS sEx nd m 1)
 else if (nd m).k=31 then uoB (nd m) true false false false false true && (decide (19<=(nd m).o) && decide ((nd m).o<=22)) && (((nd m).kn:Int)==1 && atS sEx nd m 0)
 else if (nd m).k=32 then uoB (nd m) true false false false false true && (decide (1<=(nd m).o) && decide ((nd m).o<=18)) && (((nd m).kn:Int)==2 && atS sEx nd m 0 && atS sEx nd m 1)
 else if (nd m).k=34 then uoB (nd m) false false false false false true && decide (0<(nd m).kn) && allS sEx nd m 0 (nd m).kn
 else if (nd m).k=35 then uoB (nd m) true false false false false true && ((nd m).kn:Int)%2==0 && allS sEx nd m 0 (nd m).kn && ((nd m).o==0 || (nd m).o==1 && decide (0<(nd m).kn) && atS sIn nd m ((nd m).kn-2) && atS sLi nd m ((nd m).kn-1))
 else if (nd m).k=38 then uoB (nd m) false false false false false true && (((nd m).kn:Int)==1 && atS sLi nd m 0)
 else false
def fitB (nd:Nat->ND) (m:Nat):Bool:=
 (stK (nd m).k || exK (nd m).k) && (if stK (nd m).k then decide (1<=(nd m).l) && decide ((nd m).l<=100000) else (nd m).l==0) && decide (((nd m).kn:Int)<=200) && fkB nd m
def KRq (nd:Nat->ND) (m:Nat):Prop:=∀ i,i<(nd m).kn->0<=(nd m).c i/\(nd m).c i<m
theorem q65 {s:Nat} {nd:Nat->ND} {m:Nat} {c:Int} (h:kidS s nd m c=true):0<=c/\c<m:=by
 unfold kidS at h
 simp at h
 exact h.1
theorem ya5 {s:Nat} {p:Int->Bool} (hs:∀ k,setB s k=p k) (h0:p 0=false) {nd:Nat->ND} {m:Nat}:allS s nd m 0 (nd m).kn=true↔KRq nd m/\allB (fun i=>p (kidK nd m i)) 0 (nd m).kn=true:=by
 have e:allS s nd m 0 (nd m).kn=allB (fun i=>p (kidK nd m i)) 0 (nd m).kn:=zr4 fun i _ hi=>(qq8 hs h0 hi).symm
 rw[e]
 exact ⟨fun h=>⟨fun i hi=>by
  have:=allB_true.1 h i (Nat.zero_le _) hi
  simp only[qq8 hs h0 hi] at this
  exact q65 this,h⟩,fun h=>h.2⟩
theorem ya4 {nd:Nat->ND} {m:Nat}:allS sEx nd m 0 (nd m).kn=true↔KRq nd m/\exsB nd m 0 (nd m).kn=true:=ya5 zf1 (by decide)
theorem zj1 {s:Nat} {p:Int->Bool} (hs:∀ k,setB s k=p k) (h0:p 0=false) {nd:Nat->ND} {m i:Nat} (hi:i<(nd m).kn):atS s nd m i=p (kidK nd m i):=(qq8 hs h0 hi).symm
theorem zi1 {nd:Nat->ND} {m:Nat}:exsB nd m 0 1=exK (kidK nd m 0):=by
 rw[Bool.eq_iff_iff]
 unfold exsB
 rw[allB_true]
 exact ⟨fun h=>h 0 (Nat.le_refl _) (by omega),fun h i _ hi=>by
  obtain rfl:i=0:=by omega
  exact h⟩
theorem y06 {nd:Nat->ND} {m:Nat}:exsB nd m 0 2=(exK (kidK nd m 0) && exK (kidK nd m 1)):=by
 rw[Bool.eq_iff_iff]
 unfold exsB
 rw[allB_true,Bool.and_eq_true]
 exact ⟨fun h=>⟨h 0 (Nat.le_refl _) (by omega),h 1 (by omega) (by omega)⟩,fun h i _ hi=>by
  rcases (show i=0\/i=1 by omega) with rfl|rfl
  ·exact h.1
  ·exact h.2⟩
theorem zb0 {nd:Nat->ND} {m:Nat}:exsB nd m 0 3=(exK (kidK nd m 0) && exK (kidK nd m 1) && exK (kidK nd m 2)):=by
 rw[Bool.eq_iff_iff]
 unfold exsB
 rw[allB_true,Bool.and_eq_true,Bool.and_eq_true]
 exact ⟨fun h=>⟨⟨h 0 (Nat.le_refl _) (by omega),h 1 (by omega) (by omega)⟩,h 2 (by omega) (by omega)⟩,fun h i _ hi=>by
  rcases (show i=0\/i=1\/i=2 by omega) with rfl|rfl|rfl
  ·exact h.1.1
  ·exact h.1.2
  ·exact h.2⟩
theorem kr0 {nd:Nat->ND} {m:Nat} (h:(nd m).kn=0):KRq nd m:=fun i hi=>by omega
theorem kr1 {nd:Nat->ND} {m:Nat} {s:Nat} (h:(nd m).kn=1) (h0:atS s nd m 0=true):KRq nd m:=fun i hi=>by
 obtain rfl:i=0:=by omega
 exact q65 h0
theorem kr2 {nd:Nat->ND} {m:Nat} {s t:Nat} (h:(nd m).kn=2) (h0:atS s nd m 0=true) (h1:atS t nd m 1=true):KRq nd m:=fun i hi=>by
 rcases (show i=0\/i=1 by omega) with rfl|rfl
 ·exact q65 h0
 ·exact q65 h1
theorem kr3 {nd:Nat->ND} {m:Nat} {s t u:Nat} (h:(nd m).kn=3) (h0:atS s nd m 0=true) (h1:atS t nd m 1=true) (h2:atS u nd m 2=true):KRq nd m:=fun i hi=>by
 rcases (show i=0\/i=1\/i=2 by omega) with rfl|rfl|rfl
 ·exact q65 h0
 ·exact q65 h1
 ·exact q65 h2
theorem kr4 {nd:Nat->ND} {m:Nat} {s t u v:Nat} (h:(nd m).kn=4) (h0:atS s nd m 0=true) (h1:atS t nd m 1=true) (h2:atS u nd m 2=true) (h3:atS v nd m 3=true):KRq nd m:=fun i hi=>by
 rcases (show i=0\/i=1\/i=2\/i=3 by omega) with rfl|rfl|rfl|rfl
 ·exact q65 h0
 ·exact q65 h1
 ·exact q65 h2
 ·exact q65 h3
theorem yo4 (a:ND) (o n f s:Bool):uoB a o n f s true true=q38 a o n f s a.rn:=by simp[uoB,q38,zi5]
theorem yi7 (a:ND) (o n f s:Bool):uoB a o n f s false true=q38 a o n f s 0:=by simp[uoB,q38,zi5]
theorem yi8 (a:ND) (o n f s:Bool):uoB a o n f s false false=(((a.kn:Int)==0) && q38 a o n f s 0):=by simp only[uoB,q38,zi5,Bool.false_or,Bool.and_comm]
theorem yo5 (a:ND) (o n f s:Bool):uoB a o n f s true false=(((a.kn:Int)==0) && q38 a o n f s a.rn):=by simp[uoB,q38,zi5,Bool.and_comm]
theorem qk7 {a:ND} {o n f s:Bool} {r:Int} (h:(a.rn:Int)=r):q38 a o n f s a.rn=q38 a o n f s r:=by rw[h]
theorem qy2 {nd:Nat->ND} {m i:Nat} (h:(nd m).kn=i+1):blkB nd m=(kidK nd m i==1):=by
 unfold blkB
 rw[h]
 simp
theorem yq5 {nd:Nat->ND} {m:Nat} (hs:stK (nd m).k=true):fkB nd m=true↔KRq nd m/\stBs nd m=true:=by
 have hr:1<=(nd m).k/\(nd m).k<=14:=by unfold stK at hs;simp at hs;exact hs
 have hS:=@ya5 sSt stK zu3 (by decide) nd m
 have hE:=@ya4 nd m
 have aE:=fun i hi=>@zj1 sEx exK zf1 (by decide) nd m i hi
 have aB:=fun i hi=>@zj1 sBl (·==1) yp2 (by decide) nd m i hi
 have aL:=fun i hi=>@zj1 sEl (fun k=>k==1 || k==5) yo9 (by decide) nd m i hi
 have aC:=fun i hi=>@zj1 sCa (·==34) yp1 (by decide) nd m i hi
 unfold fkB stBs
 rcases (show (nd m).k=1\/(nd m).k=2\/(nd m).k=3\/(nd m).k=4\/(nd m).k=5\/(nd m).k=6\/(nd m).k=7\/(nd m).k=8\/(nd m).k=9\/(nd m).k=10\/(nd m).k=11\/(nd m).k=12\/(nd m).k=13\/(nd m).k=14 by omega) with e|e|e|e|e|e|e|e|e|e|e|e|e|e<;>(simp only[e];simp only[Int.reduceEq,if_true,if_false,or_false,or_true,yo4,yi7,yi8,Bool.and_eq_true,Bool.or_eq_true,beq_iff_eq,decide_eq_true_eq])
 ·rw[hS];grind
 ·rw[hE];grind
 ·constructor
  ·rintro ⟨⟨⟨⟨h1,h2⟩,h3⟩,h4⟩,h5⟩
   have hk:KRq nd m:=fun i hi=>by
    by_cases c:i<(nd m).n.toNat
    ·exact q65 (allB_true.1 h4 i (Nat.zero_le _) c)
    ·exact q65 (allB_true.1 h5 i (by omega) hi)
   refine ⟨hk,⟨⟨?_,?_⟩,h1⟩,?_⟩
   ·simp;omega
   ·exact allB_true.2 fun i _ hi=>by
     have:=allB_true.1 h4 i (Nat.zero_le _) hi
     rwa [<-qq8 yk2 (by decide) (by omega)] at this
   ·exact allB_true.2 fun i h0 hi=>by
     have:=allB_true.1 h5 i h0 hi
     rwa [<-qq8 zf1 (by decide) (by omega)] at this
  ·rintro ⟨_,⟨⟨h1,h2⟩,h3⟩,h4⟩
   simp at h1
   refine ⟨⟨⟨⟨h3,by omega⟩,by omega⟩,?_⟩,?_⟩
   ·exact allB_true.2 fun i _ hi=>by
     have:=allB_true.1 h2 i (Nat.zero_le _) hi
     rwa [qq8 yk2 (by decide) (by omega)] at this
   ·exact allB_true.2 fun i h0 hi=>by
     have:=allB_true.1 h4 i h0 hi
     rwa [qq8 zf1 (by decide) (by omega)] at this
 case inr.inr.inr.inr.inr.inr.inl=>
  constructor
  ·rintro ⟨⟨h1,h2⟩,⟨⟨⟨h3,h4⟩,h5⟩,h6⟩,h7⟩
   have hk:(nd m).kn=4:=by omega
   have:=kr4 hk h4 h5 h6 h7
   rw[aE _ (by omega)] at h4 h5 h6
   rw[aB _ (by omega)] at h7
   rw[zb0,qy2 hk,h4,h5,h6,h7,<-qk7 h2]
   exact ⟨this,⟨⟨h3,rfl⟩,rfl⟩,h1⟩
  ·rintro ⟨h0,⟨⟨h1,h2⟩,h3⟩,h4⟩
   have hk:(nd m).kn=4:=by omega
   have hb:=q58 h4
   rw[zb0] at h2
   rw[qy2 hk] at h3
   simp only[Bool.and_eq_true] at h2
   rw[aE _ (by omega),aE _ (by omega),aE _ (by omega),aB _ (by omega),qk7 hb,h2.1.1,h2.1.2,h2.2,h3]
   exact ⟨⟨h4,hb⟩,⟨⟨⟨h1,rfl⟩,rfl⟩,rfl⟩,rfl⟩
 case inr.inr.inr.inr.inr.inr.inr.inr.inr.inr.inr.inl=>
  constructor
  ·rintro ⟨⟨h1,h2⟩,⟨h3,h4⟩,h5⟩
   have hk:(nd m).kn=2:=by omega
   have:=kr2 hk h4 h5
   rw[aB _ (by omega)] at h4 h5
   rw[qy2 hk,h5,<-qk7 h2]
   exact ⟨this,⟨⟨h3,by simpa using h4⟩,rfl⟩,h1⟩
  ·rintro ⟨h0,⟨⟨h1,h2⟩,h3⟩,h4⟩
   have hk:(nd m).kn=2:=by omega
   have hb:=q58 h4
   rw[qy2 hk] at h3
   rw[aB _ (by omega),aB _ (by omega),qk7 hb,h2,h3]
   exact ⟨⟨h4,hb⟩,⟨h1,rfl⟩,rfl⟩
 all_goals first|(rw[hE];grind)|(rw[zi1];grind [kr1,kr2,kr3,kr0,qy2])|grind [kr0,kr1,kr2,qy2]
theorem ym8 {nd:Nat->ND} {m:Nat} (hs:exK (nd m).k=true):fkB nd m=true↔KRq nd m/\epB nd m=true:=by
 have hr:20<=(nd m).k/\(nd m).k<=38:=by unfold exK at hs;simp at hs;exact hs
 have hE:=@ya4 nd m
 have aE:=fun i hi=>@zj1 sEx exK zf1 (by decide) nd m i hi
 have aI:=fun i hi=>@zj1 sIn (·==23) yo8 (by decide) nd m i hi
 have aM:=fun i hi=>@zj1 sLi mnK yo7 (by decide) nd m i hi
 unfold fkB epB
 rcases (show (nd m).k=20\/(nd m).k=21\/(nd m).k=22\/(nd m).k=23\/(nd m).k=24\/(nd m).k=25\/(nd m).k=26\/(nd m).k=27\/(nd m).k=28\/(nd m).k=29\/(nd m).k=30\/(nd m).k=31\/(nd m).k=32\/(nd m).k=33\/(nd m).k=34\/(nd m).k=35\/(nd m).k=36\/(nd m).k=37\/(nd m).k=38 by omega) with e|e|e|e|e|e|e|e|e|e|e|e|e|e|e|e|e|e|e<;>(simp only[e];simp only[Int.reduceEq,if_true,if_false,or_false,or_true,yo5,yi7,yi8,Bool.and_eq_true,Bool.or_eq_true,beq_iff_eq,decide_eq_true_eq])
 all_goals first
  |grind [kr0,kr1]
  |(rw[hE];grind)
  |(constructor
    ·rintro ⟨⟨h1,h2⟩,h3⟩
     rw[<-qk7 h3]
     exact ⟨kr0 (by omega),h1,h2⟩
    ·rintro ⟨_,h1,h2⟩
     have hb:=q58 h2
     rw[qk7 hb]
     exact ⟨⟨h1,h2⟩,hb⟩)
  |(constructor
    ·intro h
     have hk:(nd m).kn=1:=by omega
     have:=kr1 hk h.2.2
     rw[hk,zi1]
     rw[aE _ (by omega)] at h
     grind
    ·intro h
     have hk:(nd m).kn=1:=by omega
     rw[hk,zi1] at h
     rw[aE _ (by omega)]
     grind)
  |(constructor
    ·intro h
     have hk:(nd m).kn=2:=by omega
     have:=kr2 hk h.2.1.2 h.2.2
     rw[hk,y06]
     rw[aE _ (by omega),aE _ (by omega)] at h
     grind
    ·intro h
     have hk:(nd m).kn=2:=by omega
     rw[hk,y06] at h
     rw[aE _ (by omega),aE _ (by omega)]
     grind)
theorem y14 {nd:Nat->ND} {m:Nat} (h:epB nd m=true):exK (nd m).k=true:=by
 unfold epB at h
 have hr:20<=(nd m).k/\(nd m).k<=38:=by
  refine Classical.byContradiction fun hn=>?_
  have hf:∀ {p:Prop} [Decidable p] {a b:Bool},¬p->(if p then a else b)=true->b=true:=fun hp h=>by rwa [if_neg hp] at h
  exact absurd (hf (by omega) (hf (by omega) (hf (by omega) (hf (by omega) (hf (by omega) (hf (by omega) (hf (by omega) (hf (by omega) (hf (by omega) (hf (by omega) (hf (by omega) (hf (by omega) h)))))))))))) (by decide)
 unfold exK
 simp
 exact hr
theorem kr_b {nd:Nat->ND} {m:Nat}:allB (fun i=>!(decide ((nd m).c i<0) || decide ((m:Int)<=(nd m).c i))) 0 (nd m).kn=true↔KRq nd m:=by
 rw[allB_true]
 exact ⟨fun h i hi=>by have:=h i (Nat.zero_le _) hi;simp at this;omega,fun h i _ hi=>by have:=h i hi;simp;omega⟩
theorem ya8 (nd:Nat->ND) (m:Nat):fitB nd m=shB nd m:=by
 rw[Bool.eq_iff_iff]
 unfold fitB shB
 by_cases hs:stK (nd m).k=true
 ·have h:=yq5 hs
  rw[if_pos hs,if_pos hs]
  simp only[Bool.and_eq_true,kr_b,h,hs,Bool.or_eq_true,Bool.not_eq_true',decide_eq_false_iff_not,decide_eq_true_eq]
  constructor
  ·rintro ⟨⟨⟨_,h1⟩,h2⟩,h3,h4⟩
   exact ⟨⟨by omega,h3⟩,h1,h4⟩
  ·rintro ⟨⟨h1,h2⟩,h3,h4⟩
   exact ⟨⟨⟨.inl trivial,h3⟩,by omega⟩,h2,h4⟩
 ·rw[if_neg hs,if_neg hs]
  simp only[Bool.and_eq_true,kr_b,Bool.or_eq_true,Bool.not_eq_true',decide_eq_false_iff_not,decide_eq_true_eq]
  constructor
  ·rintro ⟨⟨⟨h0,h1⟩,h2⟩,h3⟩
   have h:=(ym8 (h0.resolve_left hs)).1 h3
   exact ⟨⟨by omega,h.1⟩,h1,h.2⟩
  ·rintro ⟨⟨h1,h2⟩,h3,h4⟩
   exact ⟨⟨⟨.inr (y14 h4),h3⟩,by omega⟩,(ym8 (y14 h4)).2 ⟨h2,h4⟩⟩
end Go.Proofs.YtaimofjekgnieaaGreatDoor
namespace Go.Proofs.YtaimofjekgnieaaGreatDoor
open Go.RowKit
attribute [local go_sem] q00
structure ID where
 an:Nat
 a:Nat->ByteArray
 ln:Nat
 l:Nat->ByteArray
 t:Int
 d:Int
 c:Int
structure ID.sm (x:ID):Prop where
 an:x.an<=1048576
 a:∀ i,i<x.an->(x.a i).size<=1048576
 ln:x.ln<=1048576
 l:∀ i,i<x.ln->(x.l i).size<=1048576
structure IA where
 aa:Option Addr
 ac:Nat
 la:Option Addr
 lc:Nat
abbrev inV (d:ID) (x:IA):Value:=.agg #[.slice x.aa d.an x.ac,.slice x.la d.ln x.lc,.int .i64 d.t,.int .i64 d.d,.int .i64 d.c]
def zr8 (L:Nat) (w:World) (a:Option Addr) (n:Nat) (q:Nat->ByteArray):Prop:=RowN 1 L w a n fun i=>#[.string (q i)]
def InAt (L:Nat) (w:World) (d:ID) (x:IA):Prop:=zr8 L w x.aa d.an d.a/\zr8 L w x.la d.ln d.l
theorem InAt.below {L:Nat} {w w':World} {d:ID} {x:IA} (h:InAt L w d x) (hb:Below w.heap.size w w'):InAt L w' d x:=⟨RowN.below h.1 hb,RowN.below h.2 hb⟩
theorem InAt.alloc {L:Nat} {w:World} {d:ID} {x:IA} (h:InAt L w d x) (o:Obj):InAt L (w.alloc o) d x:=h.below (q01 w o)
end Go.Proofs.YtaimofjekgnieaaGreatDoor
namespace Go.Proofs.YtaimofjekgnieaaGreatDoor
open Go.RowKit
attribute [local go_sem] q00
attribute [local go_sem ↓] Go.wp_at_zero Go.wp_at_succ
def zp8 (n:Nat) (q:Nat->ByteArray):Prop:=n<=200/\∀ i,i<n->(q i).size<=4000
def zp2 (d:ID):Prop:=(0<=d.t/\d.t<=5000)/\(1<=d.d/\d.d<=60)/\(0<=d.c/\d.c<=20000)
def okI (d:ID):Prop:=zp8 d.an d.a/\zp8 d.ln d.l/\zp2 d
def InSays (d:ID) (e:Ending):Prop:=∃ b,e=.returned (.bool b)/\(b=true↔okI d)
theorem InSays.no {d:ID} (h:¬okI d):InSays d (.returned (.bool false)):=⟨_,rfl,by simp[h]⟩
theorem InSays.num {d:ID} {b:Bool} (h:zp8 d.an d.a) (h':zp8 d.ln d.l) (e:b=true↔zp2 d):InSays d (.returned (.bool b)):=⟨_,rfl,e.trans ⟨fun k=>⟨h,h',k⟩,fun k=>k.2.2⟩⟩
def bwB (i l m:Int):Bool:=decide (l<=i) && decide (i<=m)
theorem qs1 (i l m:Int) (w:World):Calls Tryz.prog 45 #[.int .i64 i,.int .i64 l,.int .i64 m] w fun e w'=>e=.returned (.bool (bwB i l m))/\w'=w:=by
 go_enter Tryz.func45,Tryz.ntmps45
 go_wp2_with fail
 all_goals go_ret
 all_goals exact ⟨by simp[bwB, *]<;>(intros;omega),rfl⟩
theorem qh2 (s:ByteArray) (w:World):Calls Tryz.prog 44 #[.string s] w fun e w'=>e=.returned (.bool (decide (4000<s.size)))/\w'=w:=by
 go_enter Tryz.func44,Tryz.ntmps44
 go_wp2_with fail
 go_ret
 exact ⟨by simp;omega,rfl⟩
def yb5 (n:Nat) (q:Nat->ByteArray) (r:Int):Prop:=(r = -1/\∀ i,i<n->(q i).size<=4000)\/∃ i:Nat,r=i/\i<n/\4000<(q i).size
theorem za0 (L:Nat) (a:Option Addr) (n cap:Nat) (q:Nat->ByteArray) (w:World) (hn:n<=1048576) (hT:zr8 L w a n q) :
  Calls Tryz.prog 79 #[.slice a n cap,.func (.func 44) #[] #[]] w fun e w'=>(∃ r,e=.returned (.int .i64 r)/\yb5 n q r)/\w'=w:=by
 have HT:Hid (zr8 L w a n q):=hT
 clear hT
 go_enter Tryz.func79,Tryz.ntmps79
 go_wp2_with fail
 go_loopw [8] (fun i wr=>∃ (k:Nat),k<=n/\i=.int .i64 k/\Hid (∀ j,j<k->(q j).size<=4000)/\wr=w) (fun i _=>n-(intOf i).toNat)
 case atStart=>exact ⟨0,Nat.zero_le _,rfl,fun j hj=>by omega,rfl⟩
 case round=>
  obtain ⟨k,hk,rfl,HK,rfl⟩:=hrel
  by_cases hkn:k<n
  ·obtain ⟨b,off,rfl,_,hb,d0⟩:=cells1 HT.out hkn
   by_cases c3:4000<(q k).size
   ·go_wp2_with (go_at_call 44;refine (qh2 _ _).mono ?_;rw[decide_eq_true c3];rintro e w1 ⟨rfl,rfl⟩)
    go_ret
    exact ⟨⟨_,rfl,.inr ⟨k,rfl,hkn,c3⟩⟩,rfl⟩
   ·go_wp2_with (go_at_call 44;refine (qh2 _ _).mono ?_;rw[decide_eq_false c3];rintro e w1 ⟨rfl,rfl⟩)
    go_roundw
    case rel=>exact ⟨k+1,by omega,by go_num,fun j hj=>by
     by_cases e:j=k
     ·subst e;omega
     ·exact HK.out j (by omega),by first|rfl|trivial⟩
    case measure=>simp[intOf];omega
  ·go_wp2_with fail
   go_ret
   exact ⟨⟨_,rfl,.inl ⟨rfl,fun i hi=>HK.out i (by omega)⟩⟩,rfl⟩
def y98 (n:Nat) (q:Nat->ByteArray) (e:Ending):Prop:=∃ b,e=.returned (.bool b)/\(b=false↔∀ i,i<n->(q i).size<=4000)
theorem qe1 (L:Nat) (a:Option Addr) (n cap:Nat) (q:Nat->ByteArray) (w:World) (hn:n<=1048576) (hT:zr8 L w a n q) :
  Calls Tryz.prog 43 #[.slice a n cap,.func (.func 44) #[] #[]] w fun e w'=>y98 n q e/\w'=w:=by
 have HT:Hid (zr8 L w a n q):=hT
 clear hT
 go_enter Tryz.func43,Tryz.ntmps43
 go_wp2_with (go_at_call 79;refine (za0 L a n cap q _ hn HT.out).mono ?_;rintro e w1 ⟨⟨r,rfl,hr⟩,rfl⟩;have HR:Hid (yb5 n q r):=hr;clear hr)
 go_ret
 refine ⟨⟨_,rfl,?_⟩,rfl⟩
 rcases HR.out with ⟨rfl,h⟩|⟨i,rfl,hi,h⟩
 ·exact ⟨fun _=>h,fun _=>rfl⟩
 ·constructor
  ·intro h0
   simp at h0
  ·intro h0
   have:=h0 i hi
   omega
theorem qk1 (L:Nat) (d:ID) (x:IA) (w:World) (hs:d.sm) (hT:InAt L w d x) :
  Calls Tryz.prog 25 #[inV d x] w fun e w'=>InSays d e/\Below w.heap.size w w':=by
 have HT:Hid (InAt L w d x):=hT
 have HS:Hid d.sm:=hs
 have ha:=hs.an
 have hl:=hs.ln
 clear hT hs
 go_enter Tryz.func25,Tryz.ntmps25
 go_wp2_with fail
 refine wp_loop_rounds 3 ?_
 rw[rounds_succ]
 by_cases c1:200<d.an
 ·go_wp2_with fail
  go_ret
  exact ⟨InSays.no fun h=>by have:=h.1.1;omega,q04 _ _ _⟩
 go_wp2_with fail
 refine (qe1 L x.aa d.an x.ac d.a _ ha ((HT.out.alloc _).alloc _).1).mono ?_
 rintro e w1 ⟨⟨b,rfl,hb⟩,rfl⟩
 cases b
 case true=>
  go_wp2_with fail
  go_ret
  exact ⟨InSays.no fun h=>Bool.noConfusion (hb.2 h.1.2),q04 _ _ _⟩
 have HLa:Hid (zp8 d.an d.a):=⟨by omega,hb.1 rfl⟩
 clear hb
 go_wp2_with fail
 rw[rounds_succ]
 by_cases c2:200<d.ln
 ·go_wp2_with fail
  go_ret
  exact ⟨InSays.no fun h=>by have:=h.2.1.1;omega,q04 _ _ _⟩
 go_wp2_with fail
 refine (qe1 L x.la d.ln x.lc d.l _ hl ((HT.out.alloc _).alloc _).2).mono ?_
 rintro e w1 ⟨⟨b,rfl,hb⟩,rfl⟩
 cases b
 case true=>
  go_wp2_with fail
  go_ret
  exact ⟨InSays.no fun h=>Bool.noConfusion (hb.2 h.2.1.2),q04 _ _ _⟩
 have HLl:Hid (zp8 d.ln d.l):=⟨by omega,hb.1 rfl⟩
 clear hb
 go_wp2_with fail
 rw[rounds_succ]
 cases q1:bwB d.t 0 5000
 ·go_wp2_with (go_at_call 45;refine (qs1 _ _ _ _).mono ?_;rw[q1];rintro e w1 ⟨rfl,rfl⟩)
  go_ret
  exact ⟨InSays.num HLa.out HLl.out (by unfold zp2;unfold bwB at q1;simp at q1 ⊢;intros;omega),q04 _ _ _⟩
 ·cases q2:bwB d.d 1 60
  ·go_wp2_with (go_at_call 45;refine (qs1 _ _ _ _).mono ?_;(first|rw[q1]|rw[q2]);rintro e w1 ⟨rfl,rfl⟩)
   go_ret
   exact ⟨InSays.num HLa.out HLl.out (by unfold zp2;unfold bwB at q2;simp at q2 ⊢;intros;omega),q04 _ _ _⟩
  ·go_wp2_with (go_at_call 45;refine (qs1 _ _ _ _).mono ?_;(first|rw[q1]|rw[q2]|skip);rintro e w1 ⟨rfl,rfl⟩)
   go_ret
   exact ⟨InSays.num HLa.out HLl.out (by unfold zp2;unfold bwB at q1 q2 ⊢;simp at q1 q2 ⊢;omega),q04 _ _ _⟩
end Go.Proofs.YtaimofjekgnieaaGreatDoor
