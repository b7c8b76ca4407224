import Derived.Test.YtaimofjekgnieaaGreatDoorLcA
import Derived.Test.YtaimofjekgnieaaGreatDoorQbC
set_option maxRecDepth 100000
set_option maxHeartbeats 16000000
namespace Go.Proofs.YtaimofjekgnieaaGreatDoor
open Go.RowKit
attribute [local go_sem] q00
attribute [local go_sem ↓] Go.wp_at_zero Go.wp_at_succ
theorem z89 (I:LBI) (S:LBS) (c:IL) (n:Nat) (u:World) (h:LB I S u) (hg:Gd S n) (hn:n<=140) (hc:rOk I S u c.a c.n c.q) (hcc:c.n<=c.c) (hkc:I.nk<=I.kc) :
  Calls Tryz.prog 23 #[ptr I.B,ilV c] u fun e w'=>e=.returned (.agg #[.slice (some ⟨I.F,0,none⟩) I.nf I.fc])/\∃ S' g,LZ I S' g (S.l++[(ndR 1 1 0 il0 c,naR il0 c)]) w'/\S'.vl=S.vl/\I.N<=g/\(∀ k,bkOf S'.va=some k->I.N<=k)/\Gx (fun k=>(k=I.B\/k=I.C\/k=I.F\/k=I.K)\/bkOf S.na=some k\/bkOf S.va=some k) u w':=by
 have HS:Hid _:=ql5 I S c n (u.alloc (.cells #[.slice none 0 0] 31)) (h.alloc _) hg hn (hc.call (q01 _ _)) hcc hkc
 have HL:Hid (LB I S u):=h
 clear h hg hc
 go_enter Tryz.func23,Tryz.ntmps23
 go_wp2_with fail
 refine Calls.mono HS.out ?_
 rintro e w2 ⟨rfl,S',g,hs,-⟩
 have hO:OwnB w2 u.heap.size #[.slice none 0 0]:=hs.g.ownB (OwnB.new _ _ _) (fun e=>by
  have h1:=HL.out.n
  have hi:=HL.out.i
  have i1:=hi.b;have i2:=hi.c;have i3:=hi.f;have i4:=hi.k
  rcases e with e|e|e
  ·omega
  ·exact Nat.lt_irrefl _ (q09 HL.out.r e).2
  ·exact Nat.lt_irrefl _ (q09 HL.out.v e).2)
 have r0:=hO.1.cell 0 rfl
 have rz:=hO.2
 have b1:w2.cell? ⟨I.B,1,none⟩=some (.slice (some ⟨I.F,0,none⟩) I.nf I.fc):=hs.b.1.cell 1 rfl
 have H2:Hid (ShS I S (u.alloc (.cells #[.slice none 0 0] 31)) c S' g w2):=hs
 have H3:Hid (OwnB w2 u.heap.size #[.slice none 0 0]):=hO
 clear hs hO
 go_wp2_with fail
 have hs:=H2.out
 have hL:=HL.out
 have hlt:u.heap.size<(u.alloc (.cells #[.slice none 0 0] 31)).heap.size:=by simp
 refine bodyPost_ret (v:=.agg #[.slice (some ⟨I.F,0,none⟩) I.nf I.fc]) (by simp[results,Tryz.results23,go_sem,r0]) rfl ⟨rfl,S',g,?_,hs.vl,hs.gg,fun k e=>(q09 hs.z.v e).1,?_⟩
 ·exact hs.z.set H3.out (by have:=hL.i.f;have:=hL.n;omega) (fun e=>Nat.lt_irrefl _ (q09 hL.r ((hs.m _ hlt).1 e)).2) (fun e=>Nat.lt_irrefl _ (q09 hL.v ((hs.m _ hlt).2 e)).2)
 ·exact ((Gx.below (fun k=>(k=I.B\/k=I.C\/k=I.F\/k=I.K)\/bkOf S.na=some k\/bkOf S.va=some k) (q01 u _)).trans hs.g (fun _ _ e=>e)).trans (Gx.set w2 u.heap.size 0 _) (fun k hk e=>by omega)
end Go.Proofs.YtaimofjekgnieaaGreatDoor
namespace Go.Proofs.YtaimofjekgnieaaGreatDoor
structure GF (d:FD) (k:Nat):Prop where
 nn:d.nn=k+3
 lit:∀ j,j<k->NdE (d.nd j) 23 1 [] []
 rest:NdE (d.nd k) 37 0 [] []
 ret:NdS (d.nd (k+1)) 11 [] (List.range (k+1))
 blk:NdS (d.nd (k+2)) 1 [] [k+1]
 p:d.params=0
 r:d.rest=true
 vn:d.vn=0
 un:d.un=0
 nm:d.name.size<=40
 l1:0<=d.line
 l2:d.line<=100000
structure MF (d:FD) (n:Nat):Prop where
 nn:d.nn=2*n+14
 fn:NdE (d.nd 0) 36 0 [1] []
 lt:NdS (d.nd 1) 2 [0] [0]
 vr:∀ i,i<n->NdE (d.nd (2*i+2)) 26 0 [0] []
 c0:NdE (d.nd 3) 34 0 [] [2]
 cl:∀ i,1<=i->i<n->NdE (d.nd (2*i+3)) 34 0 [] [2*i+2,2*i+1]
 p0:NdE (d.nd (2*n+2)) 28 0 [] []
 p1:NdE (d.nd (2*n+3)) 34 0 [] [2*n+2,2*n+1]
 p2:NdS (d.nd (2*n+4)) 4 [] [2*n+3]
 p3:NdS (d.nd (2*n+5)) 1 [] [2*n+4]
 q0:NdE (d.nd (2*n+6)) 26 0 [1] []
 q1:NdE (d.nd (2*n+7)) 26 0 [2] []
 q2:NdE (d.nd (2*n+8)) 28 0 [] []
 q3:NdE (d.nd (2*n+9)) 34 0 [] [2*n+8,2*n+6,2*n+7]
 q4:NdS (d.nd (2*n+10)) 4 [] [2*n+9]
 q5:NdS (d.nd (2*n+11)) 1 [] [2*n+10]
 t0:NdS (d.nd (2*n+12)) 12 [1,2] [2*n+5,2*n+11]
 t1:NdS (d.nd (2*n+13)) 1 [] [1,2*n+12]
 p:d.params=0
 r:d.rest=true
 vn:d.vn=3
 un:d.un=0
 nm:d.name.size<=40
 l1:0<=d.line
 l2:d.line<=100000
 v:∀ i,i<3->1<=(d.v i).size/\(d.v i).size<=40
inductive MCase (n:Nat):Nat->Int->List Nat->List Nat->Prop
 |fn:MCase n 0 36 [1] []
 |lt:MCase n 1 2 [0] [0]
 |vr (i:Nat) (h:i<n):MCase n (2*i+2) 26 [0] []
 |c0:MCase n 3 34 [] [2]
 |cl (i:Nat) (h1:1<=i) (h:i<n):MCase n (2*i+3) 34 [] [2*i+2,2*i+1]
 |p0:MCase n (2*n+2) 28 [] []
 |p1:MCase n (2*n+3) 34 [] [2*n+2,2*n+1]
 |p2:MCase n (2*n+4) 4 [] [2*n+3]
 |p3:MCase n (2*n+5) 1 [] [2*n+4]
 |q0:MCase n (2*n+6) 26 [1] []
 |q1:MCase n (2*n+7) 26 [2] []
 |q2:MCase n (2*n+8) 28 [] []
 |q3:MCase n (2*n+9) 34 [] [2*n+8,2*n+6,2*n+7]
 |q4:MCase n (2*n+10) 4 [] [2*n+9]
 |q5:MCase n (2*n+11) 1 [] [2*n+10]
 |t0:MCase n (2*n+12) 12 [1,2] [2*n+5,2*n+11]
 |t1:MCase n (2*n+13) 1 [] [1,2*n+12]
theorem mcase {n:Nat} (hn:1<=n) (a:Nat) (h:a<2*n+14):∃ k rs cs,MCase n a k rs cs:=by
 rcases (show a=0\/a=1\/a=3\/(∃ i,i<n/\a=2*i+2)\/(∃ i,1<=i/\i<n/\a=2*i+3)\/∃ t,t<12/\a=2*n+2 + t by
  by_cases c:a<2*n+2
  ·rcases Nat.mod_two_eq_zero_or_one a with e|e
   ·by_cases c0:a=0
    ·exact .inl c0
    ·exact .inr (.inr (.inr (.inl ⟨(a-2) / 2,by omega,by omega⟩)))
   ·by_cases c0:a=1
    ·exact .inr (.inl c0)
    ·by_cases c3:a=3
     ·exact .inr (.inr (.inl c3))
     ·exact .inr (.inr (.inr (.inr (.inl ⟨(a-3) / 2,by omega,by omega,by omega⟩))))
  ·exact .inr (.inr (.inr (.inr (.inr ⟨a-(2*n+2),by omega,by omega⟩))))) with rfl|rfl|rfl|⟨i,h1,rfl⟩|⟨i,h1,h2,rfl⟩|⟨t,ht,rfl⟩
 ·exact ⟨_,_,_,.fn⟩
 ·exact ⟨_,_,_,.lt⟩
 ·exact ⟨_,_,_,.c0⟩
 ·exact ⟨_,_,_,.vr i h1⟩
 ·exact ⟨_,_,_,.cl i h1 h2⟩
 ·rcases (show t=0\/t=1\/t=2\/t=3\/t=4\/t=5\/t=6\/t=7\/t=8\/t=9\/t=10\/t=11 by omega) with rfl|rfl|rfl|rfl|rfl|rfl|rfl|rfl|rfl|rfl|rfl|rfl
  ·exact ⟨_,_,_,.p0⟩
  ·exact ⟨_,_,_,.p1⟩
  ·exact ⟨_,_,_,.p2⟩
  ·exact ⟨_,_,_,.p3⟩
  ·exact ⟨_,_,_,.q0⟩
  ·exact ⟨_,_,_,.q1⟩
  ·exact ⟨_,_,_,.q2⟩
  ·exact ⟨_,_,_,.q3⟩
  ·exact ⟨_,_,_,.q4⟩
  ·exact ⟨_,_,_,.q5⟩
  ·exact ⟨_,_,_,.t0⟩
  ·exact ⟨_,_,_,.t1⟩
theorem MF.at {d:FD} {n:Nat} (h:MF d n) {a:Nat} {k:Int} {rs cs:List Nat} (c:MCase n a k rs cs):NdF (d.nd a) k 0 rs cs:=by
 cases c with
 |fn=>exact h.fn.f
 |lt=>exact h.lt.f
 |vr i hi=>exact (h.vr i hi).f
 |c0=>exact h.c0.f
 |cl i h1 hi=>exact (h.cl i h1 hi).f
 |p0=>exact h.p0.f
 |p1=>exact h.p1.f
 |p2=>exact h.p2.f
 |p3=>exact h.p3.f
 |q0=>exact h.q0.f
 |q1=>exact h.q1.f
 |q2=>exact h.q2.f
 |q3=>exact h.q3.f
 |q4=>exact h.q4.f
 |q5=>exact h.q5.f
 |t0=>exact h.t0.f
 |t1=>exact h.t1.f
def mPar (n z:Nat):Nat×Nat:=
 if z=0 then (1,0) else if z=1 then (2*n+13,0) else if z<2*n+2 then (if z%2=0 then (z+1,0) else (z+2,1))
 else if z=2*n+5 then (2*n+12,0) else if z=2*n+6 then (2*n+9,1) else if z=2*n+7 then (2*n+9,2) else if z=2*n+11 then (2*n+12,1) else if z=2*n+12 then (2*n+13,1) else (z+1,0)
theorem zx8 {n a:Nat} {k:Int} {rs cs:List Nat} (hn:1<=n) (c:MCase n a k rs cs) (b z:Nat) (hz:cs[b]?=some z):mPar n z=(a,b):=by
 cases c with
 |fn|vr i hi|p0|q0|q1|q2=>simp at hz
 |lt|c0|p2|p3|q4|q5=>
  rcases b with _|b
  ·simp at hz
   subst hz
   unfold mPar
   (repeat (first|rw[if_pos (by omega)]|rw[if_neg (by omega)]))
  ·simp at hz
 |cl i h1 hi=>
  rcases b with _|_|b
  ·simp at hz
   subst hz
   unfold mPar
   rw[if_neg (by omega),if_neg (by omega),if_pos (by omega),if_pos (by omega)]
  ·simp at hz
   subst hz
   unfold mPar
   rw[if_neg (by omega),if_neg (by omega),if_pos (by omega),if_neg (by omega)]
  ·simp at hz
 |p1=>
  rcases b with _|_|b
  ·simp at hz
   subst hz
   unfold mPar
   (repeat (first|rw[if_pos (by omega)]|rw[if_neg (by omega)]))
  ·simp at hz
   subst hz
   unfold mPar
   rw[if_neg (by omega),if_neg (by omega),if_pos (by omega),if_neg (by omega)]
  ·simp at hz
 |t0|t1=>
  rcases b with _|_|b
  ·simp at hz
   subst hz
   unfold mPar
   (repeat (first|rw[if_pos (by omega)]|rw[if_neg (by omega)]))
  ·simp at hz
   subst hz
   unfold mPar
   (repeat (first|rw[if_pos (by omega)]|rw[if_neg (by omega)]))
  ·simp at hz
 |q3=>
  rcases b with _|_|_|b
  ·simp at hz
   subst hz
   unfold mPar
   (repeat (first|rw[if_pos (by omega)]|rw[if_neg (by omega)]))
  ·simp at hz
   subst hz
   unfold mPar
   (repeat (first|rw[if_pos (by omega)]|rw[if_neg (by omega)]))
  ·simp at hz
   subst hz
   unfold mPar
   (repeat (first|rw[if_pos (by omega)]|rw[if_neg (by omega)]))
  ·simp at hz
theorem mHas {n x:Nat} (hn:1<=n) (hx:x<2*n+13):∃ (a b:Nat) (k:Int) (rs cs:List Nat),MCase n a k rs cs/\cs[b]?=some x:=by
 rcases (show x=0\/x=1\/x=2\/(∃ i,1<=i/\i<n/\x=2*i+2)\/(∃ i,1<=i/\i<n/\x=2*i+1)\/x=2*n+1\/∃ t,t<11/\x=2*n+2 + t by
  by_cases c:x<2*n+2
  ·rcases Nat.mod_two_eq_zero_or_one x with e|e
   ·by_cases c0:x=0
    ·exact .inl c0
    ·by_cases c2:x=2
     ·exact .inr (.inr (.inl c2))
     ·exact .inr (.inr (.inr (.inl ⟨(x-2) / 2,by omega,by omega,by omega⟩)))
   ·by_cases c0:x=1
    ·exact .inr (.inl c0)
    ·by_cases c3:x=2*n+1
     ·exact .inr (.inr (.inr (.inr (.inr (.inl c3)))))
     ·exact .inr (.inr (.inr (.inr (.inl ⟨(x-1) / 2,by omega,by omega,by omega⟩))))
  ·exact .inr (.inr (.inr (.inr (.inr (.inr ⟨x-(2*n+2),by omega,by omega⟩)))))) with rfl|rfl|rfl|⟨i,h1,h2,rfl⟩|⟨i,h1,h2,rfl⟩|rfl|⟨t,ht,rfl⟩
 ·exact ⟨_,0,_,_,_,.lt,rfl⟩
 ·exact ⟨_,0,_,_,_,.t1,rfl⟩
 ·exact ⟨_,0,_,_,_,.c0,rfl⟩
 ·exact ⟨_,0,_,_,_,.cl i h1 h2,rfl⟩
 ·exact ⟨_,1,_,_,_,.cl i h1 h2,rfl⟩
 ·exact ⟨_,1,_,_,_,.p1,rfl⟩
 ·rcases (show t=0\/t=1\/t=2\/t=3\/t=4\/t=5\/t=6\/t=7\/t=8\/t=9\/t=10 by omega) with rfl|rfl|rfl|rfl|rfl|rfl|rfl|rfl|rfl|rfl|rfl
  ·exact ⟨_,0,_,_,_,.p1,rfl⟩
  ·exact ⟨_,0,_,_,_,.p2,rfl⟩
  ·exact ⟨_,0,_,_,_,.p3,rfl⟩
  ·exact ⟨_,0,_,_,_,.t0,rfl⟩
  ·exact ⟨_,1,_,_,_,.q3,rfl⟩
  ·exact ⟨_,2,_,_,_,.q3,rfl⟩
  ·exact ⟨_,0,_,_,_,.q3,rfl⟩
  ·exact ⟨_,0,_,_,_,.q4,rfl⟩
  ·exact ⟨_,0,_,_,_,.q5,rfl⟩
  ·exact ⟨_,1,_,_,_,.t0,rfl⟩
  ·exact ⟨_,1,_,_,_,.t1,rfl⟩
theorem zl0 {n a:Nat} {k:Int} {rs cs:List Nat} (hn:1<=n) (c:MCase n a k rs cs):a<2*n+14:=by
 cases c<;>omega
section
variable {d:FD} {n:Nat}
theorem MF.sh (h:MF d n) (hn:1<=n) (a:Nat) (ha:a<2*n+14):shB d.nd a=true:=by
 obtain ⟨k,rs,cs,c⟩:=mcase hn a ha
 have hv:∀ i,i<n->exK (d.nd (2*i+2)).k=true:=fun i hi=>by rw[(h.vr i hi).f.k];rfl
 have hc:∀ i,i<n->exK (d.nd (2*i+3)).k=true:=fun i hi=>by
  rcases Nat.eq_zero_or_pos i with rfl|c
  ·rw[h.c0.f.k];rfl
  ·rw[(h.cl i c hi).f.k];rfl
 cases c with
 |fn=>exact yq7 h.fn
 |lt=>exact yj9 h.lt (by omega) (by rw[h.fn.f.k];rfl)
 |vr i hi=>exact y09 (h.vr i hi)
 |c0=>
  refine z32 h.c0 (by simp) (by simp) (fun i z e=>?_)
  rcases i with _|i
  ·simp at e;subst e;exact ⟨by omega,hv 0 (by omega)⟩
  ·simp at e
 |cl i h1 hi=>
  refine z32 (h.cl i h1 hi) (by simp) (by simp) (fun j z e=>?_)
  rcases j with _|_|j
  ·simp at e;subst e;exact ⟨by omega,hv i hi⟩
  ·simp at e;subst e
   refine ⟨by omega,?_⟩
   have:=hc (i-1) (by omega)
   rw[show 2*(i-1)+3=2*i+1 by omega] at this
   exact this
  ·simp at e
 |p0=>exact ya9 h.p0
 |p1=>
  refine z32 h.p1 (by simp) (by simp) (fun j z e=>?_)
  rcases j with _|_|j
  ·simp at e;subst e;exact ⟨by omega,by rw[h.p0.f.k];rfl⟩
  ·simp at e;subst e
   refine ⟨by omega,?_⟩
   have:=hc (n-1) (by omega)
   rw[show 2*(n-1)+3=2*n+1 by omega] at this
   exact this
  ·simp at e
 |p2=>exact yk0 h.p2 (by omega) h.p1.f.k
 |p3=>
  refine qn0 h.p3 (by simp) (fun j z e=>?_)
  rcases j with _|j
  ·simp at e;subst e;exact ⟨by omega,by rw[h.p2.f.k];rfl⟩
  ·simp at e
 |q0=>exact y09 h.q0
 |q1=>exact y09 h.q1
 |q2=>exact ya9 h.q2
 |q3=>
  refine z32 h.q3 (by simp) (by simp) (fun j z e=>?_)
  rcases j with _|_|_|j
  ·simp at e;subst e;exact ⟨by omega,by rw[h.q2.f.k];rfl⟩
  ·simp at e;subst e;exact ⟨by omega,by rw[h.q0.f.k];rfl⟩
  ·simp at e;subst e;exact ⟨by omega,by rw[h.q1.f.k];rfl⟩
  ·simp at e
 |q4=>exact yk0 h.q4 (by omega) h.q3.f.k
 |q5=>
  refine qn0 h.q5 (by simp) (fun j z e=>?_)
  rcases j with _|j
  ·simp at e;subst e;exact ⟨by omega,by rw[h.q4.f.k];rfl⟩
  ·simp at e
 |t0=>exact yj7 h.t0 (by omega) (by omega) h.p3.f.k h.q5.f.k
 |t1=>
  refine qn0 h.t1 (by simp) (fun j z e=>?_)
  rcases j with _|_|j
  ·simp at e;subst e;exact ⟨by omega,by rw[h.lt.f.k];rfl⟩
  ·simp at e;subst e;exact ⟨by omega,by rw[h.t0.f.k];rfl⟩
  ·simp at e
theorem MF.par (h:MF d n) (hn:1<=n) {x:Nat} (hx:x<2*n+13):0<=parP d.nd d.nn x:=by
 obtain ⟨a,b,k,rs,cs,c,hb⟩:=mHas hn hx
 have hf:=h.at c
 have hl:=(List.getElem?_eq_some_iff.1 hb).1
 have hp:=zx8 hn c b x hb
 have ha:=zl0 hn c
 have h1:q91 d.nd (2*n+14) x=(a:Int):=qf1 (N:=2*n+14) (b0:=b) (by rw[hf.kn];exact hl) (by rw[hf.c b x hb];simp) (fun a' b' ha' hb' e=>by
  obtain ⟨k',rs',cs',c'⟩:=mcase hn a' ha'
  have hf':=h.at c'
  rw[hf'.kn] at hb'
  have hz:cs'[b']?=some cs'[b']:=List.getElem?_eq_getElem hb'
  rw[hf'.c b' _ hz] at e
  have e':cs'[b']=x:=by simpa using e
  have:=zx8 hn c' b' _ hz
  rw[e',hp] at this
  cases this
  exact ⟨rfl,rfl⟩) (2*n+14) ha (Nat.le_refl _)
 unfold parP
 rw[h.nn,if_neg (by omega),h1]
 exact Int.natCast_nonneg _
theorem MF.kidAt (h:MF d n) (hn:1<=n) {a b x:Nat} {k:Int} {rs cs:List Nat} (c:MCase n a k rs cs) (hb:cs[b]?=some x):qc7 d.nd d.nn a b x:=by
 have hf:=h.at c
 exact ⟨by rw[h.nn];exact zl0 hn c,by rw[hf.kn];exact (List.getElem?_eq_some_iff.1 hb).1,hf.c b x hb⟩
theorem MF.try0 (h:MF d n) (hn:1<=n):Vis d.nd d.nn 0 (2*n+12):=.here _ (2*n+13) 1 (h.kidAt hn .t1 rfl) (.inl ⟨h.t1.f.k,0,by omega,by
 rw[h.t1.f.c 0 1 rfl]
 exact h.lt.f.k,0,by
 rw[h.t1.f.c 0 1 rfl]
 show 0<(d.nd 1).rn
 rw[h.lt.f.rn]
 simp,by
 rw[h.t1.f.c 0 1 rfl]
 exact h.lt.f.r 0 0 rfl⟩)
theorem MF.call0 (h:MF d n) (hn:1<=n):∀ j i,i+j + 1=n->Vis d.nd d.nn 0 (2*i+3)
 |0,i,e=>by
  obtain rfl:i=n-1:=by omega
  rw[show 2*(n-1)+3=2*n+1 by omega]
  exact .up _ _ 1 (h.kidAt hn .p1 rfl) (.up _ _ 0 (h.kidAt hn .p2 rfl) (.up _ _ 0 (h.kidAt hn .p3 rfl) (.up _ _ 0 (h.kidAt hn .t0 rfl) (h.try0 hn))))
 |j+1,i,e=>by
  refine .up _ _ 1 (h.kidAt hn (.cl (i+1) (by omega) (by omega)) ?_) (h.call0 hn j (i+1) (by omega))
  show some (2*(i+1)+1)=some (2*i+3)
  congr 1
theorem MF.var0 (h:MF d n) (hn:1<=n) {i:Nat} (hi:i<n):Vis d.nd d.nn 0 (2*i+2):=by
 have hc:=h.call0 hn (n-1 - i) i (by omega)
 rcases Nat.eq_zero_or_pos i with rfl|c
 ·exact .up _ _ 0 (h.kidAt hn .c0 rfl) hc
 ·exact .up _ _ 0 (h.kidAt hn (.cl i c hi) rfl) hc
theorem MF.var12 (h:MF d n) (hn:1<=n) {v t:Nat} (ht:t=1\/t=2) (hv:[(1:Nat),2][t-1]?=some v):Vis d.nd d.nn (v:Int) (2*n+5 + t):=by
 have hb:Vis d.nd d.nn (v:Int) (2*n+11):=.here _ _ 1 (h.kidAt hn .t0 rfl) (.inr ⟨.inr (.inr h.t0.f.k),by rw[h.t0.f.kn];rfl,t-1,by rw[h.t0.f.rn];exact (List.getElem?_eq_some_iff.1 hv).1,h.t0.f.r _ _ hv⟩)
 have hc:Vis d.nd d.nn (v:Int) (2*n+9):=.up _ _ 0 (h.kidAt hn .q4 rfl) (.up _ _ 0 (h.kidAt hn .q5 rfl) hb)
 rcases ht with rfl|rfl
 ·exact .up _ _ 1 (h.kidAt hn .q3 rfl) hc
 ·exact .up _ _ 2 (h.kidAt hn .q3 rfl) hc
theorem MF.kinds (h:MF d n) (hn:1<=n) {a:Nat} (ha:a<2*n+14):((d.nd a).k=36/\a=0)\/((d.nd a).k=2/\a=1)\/((d.nd a).k=12/\a=2*n+12)\/((d.nd a).k=26/\((∃ i,i<n/\a=2*i+2)\/a=2*n+6\/a=2*n+7))\/((d.nd a).k=34\/(d.nd a).k=28\/(d.nd a).k=4\/(d.nd a).k=1):=by
 obtain ⟨k,rs,cs,c⟩:=mcase hn a ha
 have hk:=(h.at c).k
 rw[hk]
 cases c with
 |fn=>exact .inl ⟨rfl,rfl⟩
 |lt=>exact .inr (.inl ⟨rfl,rfl⟩)
 |vr i hi=>exact .inr (.inr (.inr (.inl ⟨rfl,.inl ⟨i,hi,rfl⟩⟩)))
 |q0=>exact .inr (.inr (.inr (.inl ⟨rfl,.inr (.inl rfl)⟩)))
 |q1=>exact .inr (.inr (.inr (.inl ⟨rfl,.inr (.inr rfl)⟩)))
 |t0=>exact .inr (.inr (.inl ⟨rfl,rfl⟩))
 |c0|cl _ _ _|p1|q3=>exact .inr (.inr (.inr (.inr (.inl rfl))))
 |p0|q2=>exact .inr (.inr (.inr (.inr (.inr (.inl rfl)))))
 |p2|q4=>exact .inr (.inr (.inr (.inr (.inr (.inr (.inl rfl))))))
 |p3|q5|t1=>exact .inr (.inr (.inr (.inr (.inr (.inr (.inr rfl))))))
theorem MF.refs {u:UD} (hu:u.n=2) (e:u.fn 0=d) (h:MF d n) (hn:1<=n) {a:Nat} (ha:a<2*n+14):y27 u 0 a:=by
 unfold y27
 rw[e,h.vn]
 have hk:=h.kinds hn ha
 refine ⟨fun c=>by omega,fun c=>?_,fun c=>?_,fun c j hj=>?_⟩
 ·obtain rfl:a=0:=by omega
  rw[h.fn.f.r 0 1 rfl,hu]
  exact ⟨by decide,by decide⟩
 ·rcases hk with ⟨k,_⟩|⟨k,_⟩|⟨k,_⟩|⟨_,⟨i,hi,rfl⟩|rfl|rfl⟩|k
  ·omega
  ·omega
  ·omega
  ·rw[(h.vr i hi).f.r 0 0 rfl]
   exact ⟨⟨by decide,by decide⟩,.inr (h.var0 hn hi)⟩
  ·rw[h.q0.f.r 0 1 rfl]
   exact ⟨⟨by decide,by decide⟩,.inr (h.var12 hn (t:=1) (.inl rfl) rfl)⟩
  ·rw[h.q1.f.r 0 2 rfl]
   exact ⟨⟨by decide,by decide⟩,.inr (h.var12 hn (t:=2) (.inr rfl) rfl)⟩
  ·omega
 ·have hno:∀ m,m<2*n+12->qc8 (d.nd m).k->m=1:=fun m hm c=>by
   clear hk
   unfold qc8 at c
   rcases h.kinds hn (a:=m) (by omega) with ⟨k1,-⟩|⟨-,e⟩|⟨-,e⟩|⟨k1,-⟩|k1<;>omega
  have ha':a=1\/a=2*n+12:=by
   unfold qc8 at c
   rcases hk with ⟨k1,-⟩|⟨-,e⟩|⟨-,e⟩|⟨k1,-⟩|k1<;>omega
  rcases ha' with rfl|rfl
  ·rw[h.lt.f.rn] at hj
   obtain rfl:j=0:=by simpa using hj
   rw[h.lt.f.r 0 0 rfl]
   refine ⟨⟨by decide,by decide⟩,?_⟩
   rintro (c1|⟨m,c1,c2,c3⟩|⟨b,c1,_⟩)
   ·rw[h.p] at c1;exact absurd c1 (by decide)
   ·have:=hno m (by omega) c2;omega
   ·omega
  ·rw[h.t0.f.rn] at hj
   have hj2:j<2:=hj
   have hr:∀ z,[(1:Nat),2][j]?=some z->InR (((d.nd (2*n+12)).r j)) 3/\¬q78 d (2*n+12) j ((d.nd (2*n+12)).r j):=fun z hz=>by
    have hz2:z=j+1:=by
     rcases (show j=0\/j=1 by omega) with rfl|rfl<;>(simp at hz;omega)
    rw[h.t0.f.r j z hz]
    refine ⟨⟨by omega,by omega⟩,?_⟩
    rintro (c1|⟨m,c1,c2,b,c3,c4⟩|⟨b,c1,c4⟩)
    ·rw[h.p] at c1;omega
    ·obtain rfl:=hno m c1 c2
     rw[h.lt.f.rn] at c3
     obtain rfl:b=0:=by simpa using c3
     rw[h.lt.f.r 0 0 rfl] at c4
     omega
    ·obtain rfl:b=0:=by omega
     rw[h.t0.f.r 0 1 rfl] at c4
     omega
   exact hr _ (List.getElem?_eq_getElem (by simpa using hj))
end
section
variable {d:FD} {k:Nat}
theorem GF.kinds (h:GF d k) {a:Nat} (ha:a<k+3):(a<k/\(d.nd a).k=23)\/(a=k/\(d.nd a).k=37)\/(a=k+1/\(d.nd a).k=11)\/(a=k+2/\(d.nd a).k=1):=by
 rcases (show a<k\/a=k\/a=k+1\/a=k+2 by omega) with c|rfl|rfl|rfl
 ·exact .inl ⟨c,(h.lit a c).f.k⟩
 ·exact .inr (.inl ⟨rfl,h.rest.f.k⟩)
 ·exact .inr (.inr (.inl ⟨rfl,h.ret.f.k⟩))
 ·exact .inr (.inr (.inr ⟨rfl,h.blk.f.k⟩))
theorem yd8 {k j z:Nat} (h:(List.range (k+1))[j]?=some z):j=z/\j<k+1:=by
 have hl:=(List.getElem?_eq_some_iff.1 h).1
 rw[List.length_range] at hl
 rw[List.getElem?_range hl] at h
 exact ⟨Option.some.inj h,hl⟩
theorem GF.sh (h:GF d k) (hk:k<=100) (a:Nat) (ha:a<k+3):shB d.nd a=true:=by
 rcases (show a<k\/a=k\/a=k+1\/a=k+2 by omega) with c|rfl|rfl|rfl
 ·exact ym9 (h.lit a c)
 ·exact yg1 h.rest
 ·refine yj8 h.ret (by simp;omega) (fun i z e=>?_)
  obtain ⟨rfl,hi⟩:=yd8 e
  refine ⟨hi,?_⟩
  rcases (show i<k\/i=k by omega) with c|rfl
  ·rw[(h.lit i c).f.k];rfl
  ·rw[h.rest.f.k];rfl
 ·refine qn0 h.blk (by simp) (fun i z e=>?_)
  rcases i with _|i
  ·simp at e;subst e;exact ⟨by omega,by rw[h.ret.f.k];rfl⟩
  ·simp at e
theorem GF.uniq (h:GF d k) {a b:Nat} (ha:a<k+3) (hb:b<(d.nd a).kn):(a=k+1/\((d.nd a).c b).toNat=b/\b<=k)\/(a=k+2/\b=0/\((d.nd a).c b).toNat=k+1):=by
 rcases (show a<k\/a=k\/a=k+1\/a=k+2 by omega) with c|rfl|rfl|rfl
 ·rw[(h.lit a c).f.kn] at hb;simp at hb
 ·rw[h.rest.f.kn] at hb;simp at hb
 ·rw[h.ret.f.kn,List.length_range] at hb
  refine .inl ⟨rfl,?_,by omega⟩
  rw[h.ret.f.c b b (List.getElem?_range hb)]
  simp
 ·rw[h.blk.f.kn] at hb
  obtain rfl:b=0:=by simpa using hb
  refine .inr ⟨rfl,rfl,?_⟩
  rw[h.blk.f.c 0 (k+1) rfl]
  simp
theorem GF.par (h:GF d k) {x:Nat} (hx:x<k+2):0<=parP d.nd d.nn x:=by
 have h1:∃ a:Nat,q91 d.nd (k+3) x=(a:Int):=by
  rcases (show x<=k\/x=k+1 by omega) with c|rfl
  ·have hb:x<(d.nd (k+1)).kn:=by rw[h.ret.f.kn,List.length_range];omega
   refine ⟨k+1,qf1 (N:=k+3) (b0:=x) hb ?_ (fun a b ha hb e=>?_) (k+3) (by omega) (Nat.le_refl _)⟩
   ·have:=h.uniq (by omega) hb;omega
   ·have:=h.uniq ha hb;omega
  ·have hb:0<(d.nd (k+2)).kn:=by rw[h.blk.f.kn];simp
   refine ⟨k+2,qf1 (N:=k+3) (b0:=0) hb ?_ (fun a b ha hb e=>?_) (k+3) (by omega) (Nat.le_refl _)⟩
   ·have:=h.uniq (by omega) hb;omega
   ·have:=h.uniq ha hb;omega
 obtain ⟨a,h1⟩:=h1
 unfold parP
 rw[h.nn,if_neg (by omega),h1]
 exact Int.natCast_nonneg _
end
theorem yp6 {u:UD} {k n:Nat} (hu:u.n=2) (hG:GF (u.fn 1) k) (hM:MF (u.fn 0) n) (hk:k<=95) (hn:1<=n) (hn2:n<=20):∀ y,¬BadU u y:=by
 have hf:∀ f,f<u.n->f=0\/f=1:=fun f h=>by omega
 have nn0:=hM.nn
 have nn1:=hG.nn
 rintro y (h|h|h|h|h|h|h|h|h)
 ·refine h.2.2.2 ⟨by omega,by omega,?_⟩
  rw[hu]
  show 0+(u.fn 0).nn+(u.fn 1).nn<=3000
  omega
 ·obtain ⟨_,h1,_,hb⟩:=h
  refine hb ?_
  rcases hf _ h1 with e|e<;>rw[e]
  ·exact ⟨⟨by omega,by rw[hM.vn];omega,by rw[hM.un];omega,by rw[hM.p];decide,by rw[hM.p,hM.vn];decide⟩,⟨hM.l1,hM.l2,hM.nm,fun _=>⟨hM.p,hM.un⟩⟩,fun i hi=>hM.v i (by rw[hM.vn] at hi;exact hi)⟩
  ·exact ⟨⟨by omega,by rw[hG.vn];omega,by rw[hG.un];omega,by rw[hG.p];decide,by rw[hG.p,hG.vn];decide⟩,⟨hG.l1,hG.l2,hG.nm,fun c=>by omega⟩,fun i hi=>by rw[hG.vn] at hi;omega⟩
 ·obtain ⟨_,h1,h2,hb⟩:=h
  rcases hf _ h1 with e|e<;>rw[e] at h2 hb
  ·replace h2:y.n<(u.fn 0).nn:=h2
   rw[hM.sh hn _ (by omega)] at hb;cases hb
  ·replace h2:y.n<(u.fn 1).nn:=h2
   rw[hG.sh (by omega) _ (by omega)] at hb;cases hb
 ·obtain ⟨_,h1,h2,hb⟩:=h
  rcases hf _ h1 with e|e<;>rw[e] at h2 hb
  ·rcases hb with ⟨b1,b2⟩|⟨b1,b2⟩
   ·have:=hM.par hn (x:=y.n) (by omega);omega
   ·refine b2 ?_
    rw[b1,nn0]
    exact hM.t1.f.k
  ·rcases hb with ⟨b1,b2⟩|⟨b1,b2⟩
   ·have:=hG.par (x:=y.n) (by omega);omega
   ·refine b2 ?_
    rw[b1,nn1]
    exact hG.blk.f.k
 ·obtain ⟨_,h1,h2,hb⟩:=h
  have:=(z33 (parP (u.fn y.f).nd (u.fn y.f).nn) (u.fn y.f).nn ((u.fn y.f).nn-1) y.n).2
  rcases hf _ h1 with e|e<;>rw[e] at hb this<;>omega
 ·obtain ⟨_,h1,h2,hb⟩:=h
  refine hb ?_
  rcases hf _ h1 with e|e<;>rw[e] at h2 ⊢
  ·exact MF.refs hu rfl hM hn (by omega)
  ·have:=hG.kinds (a:=y.n) (by omega)
   refine ⟨fun c=>by omega,fun c=>by omega,fun c=>by omega,fun c=>?_⟩
   unfold qc8 at c
   omega
 ·obtain ⟨_,h1,h2,hb,_⟩:=h
  rcases hf _ h1 with e|e<;>rw[e] at h2 hb
  ·have:=hM.kinds hn (a:=y.n) (by omega);omega
  ·have:=hG.kinds (a:=y.n) (by omega);omega
 ·obtain ⟨_,h1,h2,hb⟩:=h
  rcases hf _ h1 with e|e<;>rw[e] at h2 hb
  ·have hkk:=hM.kinds hn (a:=y.n) (by omega)
   rcases hb with (⟨b1,_⟩|⟨b1,b2,b3⟩)|⟨b1,b2,b3⟩
   ·omega
   ·obtain e0:y.n=0:=by omega
    rw[e0,hM.fn.f.r 0 1 rfl] at b3
    rcases b3 with b3|b3
    ·omega
    ·exact b3 fun i hi=>by
      replace hi:i<(u.fn 1).un:=hi
      rw[hG.un] at hi
      omega
   ·obtain e0:y.n=0:=by omega
    obtain ⟨f',x',c1,_⟩:=b3
    omega
  ·have hkk:=hG.kinds (a:=y.n) (by omega)
   rcases hb with (⟨b1,b2⟩|⟨b1,_⟩)|⟨b1,_⟩
   ·rw[hG.r] at b2;cases b2
   ·omega
   ·omega
 ·obtain ⟨_,_,h1,h2,hb⟩:=h
  obtain e:y.f=1:=by omega
  refine hb ⟨0,0,by omega,by omega,hM.fn.f.k,?_⟩
  rw[hM.fn.f.r 0 1 rfl,e]
end Go.Proofs.YtaimofjekgnieaaGreatDoor
