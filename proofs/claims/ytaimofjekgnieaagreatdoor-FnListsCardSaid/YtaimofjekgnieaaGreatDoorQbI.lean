import Derived.Test.YtaimofjekgnieaaGreatDoorQbC
import Derived.Test.YtaimofjekgnieaaGreatDoorImK
import Derived.Test.YtaimofjekgnieaaGreatDoorDepB
import Derived.Test.YtaimofjekgnieaaGreatDoorSkK
set_option maxRecDepth 100000
set_option maxHeartbeats 16000000
namespace Go.Proofs.YtaimofjekgnieaaGreatDoor
open Go.RowKit
structure NdIs (q:ND) (k:Int) (rs cs:List Nat):Prop where
 k:q.k=k
 rn:q.rn=rs.length
 r:∀ j z:Nat,rs[j]?=some z->q.r j=(z:Int)
 kn:q.kn=cs.length
 c:∀ j z:Nat,cs[j]?=some z->q.c j=(z:Int)
structure BC (M bb:Nat) (d:FD) (x:FA) (w:World):Prop where
 b:BB M bb d x w
 c:∀ i,i<d.nn->(d.nd i).kn<=(x.nas i).kc
theorem BC.call {M bb:Nat} {d:FD} {x:FA} {w u:World} (h:BC M bb d x w) (k:Below w.heap.size w u):BC M bb d x u:=⟨h.b.call k,h.c⟩
theorem BC.kids {M bb:Nat} {d:FD} {x:FA} {w:World} (h:BC M bb d x w) {i:Nat} {k:Int} {rs cs:List Nat} (hi:i<d.nn) (hn:NdIs (d.nd i) k rs cs) (h0:0<cs.length):∃ kb ko,(x.nas i).ka=some ⟨kb,ko,none⟩/\kb<w.heap.size/\∀ j z:Nat,cs[j]?=some z->w.cell? ⟨kb,ko+j,none⟩=some (.int .i64 (z:Int)):=by
 obtain ⟨kb,ko,e,_,h1,_⟩:=cells1 (h.b.n.2 i hi).2 (k:=0) (by rw[hn.kn];exact h0)
 refine ⟨kb,ko,e,h1,fun j z hj=>?_⟩
 have hl:=(List.getElem?_eq_some_iff.1 hj).1
 obtain ⟨kb',ko',e',_,_,d1⟩:=cells1 (h.b.n.2 i hi).2 (k:=j) (by rw[hn.kn];exact hl)
 rw[e] at e'
 cases e'
 rw[hn.c j z hj] at d1
 exact d1
theorem zk2 {w:World} {kb ko m:Nat} {q:Nat->Nat} (hkb:kb<w.heap.size) (hc:∀ j,j<m->w.cell? ⟨kb,ko+j,none⟩=some (.int .i64 (q j:Int))):RowN 1 0 w (some ⟨kb,ko,none⟩) m fun j=>#[.int .i64 (q j:Int)]:=fun _=>⟨kb,ko,rfl,Nat.zero_le _,hkb,fun i hi j hj=>by
 obtain rfl:j=0:=by omega
 rw[show ko+i*1+0=ko+i by omega]
 exact hc i hi⟩
section
variable {M bb:Nat} {d:FD} {x:FA} {w:World}
theorem qz7 (h:BC M bb d x w) {i v:Nat} (hi:i<d.nn) (hn:NdIs (d.nd i) 26 [v] []):SubC 176 bb w i (qt0 (v:Int)):=fun u hu=>by
 have:=z30 M bb d x i u (h.b.call hu) hi hn.k (by rw[hn.rn];exact Nat.zero_lt_one)
 rw[hn.r 0 v rfl] at this
 exact this
theorem yd1 (h:BC M bb d x w) {i:Nat} (hi:i<d.nn) (hn:(d.nd i).k=23/\(d.nd i).n=1):SubC 176 bb w i (qt1 (inD 1)):=fun u hu=>by
 have:=qi8 M bb d x i u (h.b.call hu) hi (.inl hn.1)
 unfold litD at this
 rw[if_pos hn.1,hn.2] at this
 exact this
theorem ya0 (h:BC M bb d x w) {i:Nat} (hi:i<d.nn) (hn:(d.nd i).k=28/\(d.nd i).n=0):SubC 176 bb w i (qt1 prD):=fun u hu=>by
 have:=qi8 M bb d x i u (h.b.call hu) hi (.inr hn.1)
 unfold litD at this
 rw[if_neg (by rw[hn.1];decide),hn.2] at this
 exact this
theorem y43 (h:BC M bb d x w) {i:Nat} (hi:i<d.nn) (hk:(d.nd i).k=37):SubC 166 bb w i zd4:=fun u hu=>z43 M bb d x i u (h.b.call hu) hi hk
theorem zo1 (h:BC M bb d x w) {i v:Nat} (hi:i<d.nn) (hn:NdIs (d.nd i) 26 [v] []):SubC 166 bb w i (y28 (qt0 (v:Int))):=fun u hu=>zc9 M bb d x _ i u (h.b.call hu) (q76 _) hi hn.k ((qz7 h hi hn).call hu)
theorem zj9 {R:Nat->Rel} {S:Rel} {kb ko m i:Nat} {q:Nat->Nat} (kr:∀ j,j<m->KpC (R j)) (ks:KpC S) (hm:m<=200) (hkb:kb<w.heap.size) (hc:∀ j,j<m->w.cell? ⟨kb,ko+j,none⟩=some (.int .i64 (q j:Int))) (hci:w.cell? ⟨kb,ko+m,none⟩=some (.int .i64 (i:Int))) (hq:∀ j,j<m->SubC 176 bb w (q j) (R j)) (hA:SubC 166 bb w i S) (c:Nat) (hcap:m<c) (u:World) (hu:Below w.heap.size w u) :
  Calls Tryz.prog 173 #[ptr bb,.slice (some ⟨kb,ko,none⟩) (m+1) c] u fun e u'=>Mks (qb9 bb (qa7 m R) S) u e u':=
 zg7 bb (qa7 m R) S kb ko c m i u (q77 m kr) ks (by omega) hcap (fun v c' hv=>zg1 bb R (some ⟨kb,ko,none⟩) m c' q v kr hm (fun j hj=>(hq j hj).call (q02 hu hv)) (zk2 (by have:=hu.size;have:=hv.size;omega) (fun j hj=>((q02 hu hv).cell (p:=⟨kb,ko+j,none⟩) hkb).trans (hc j hj)))) (hA.call hu) (by have:=hu.size;omega) ((hu.cell (p:=⟨kb,ko+m,none⟩) hkb).trans hci)
theorem zt9 (h:BC M bb d x w) {R:Rel} {n i:Nat} (kr:KpC R) (hn:n<d.nn) (hk:NdIs (d.nd n) 34 [] [i]) (hE:SubC 176 bb w i R):SubC 166 bb w n (qv3 bb (qa4 R IsNil)):=fun u hu=>
 qj1 M bb d x _ n u (h.b.call hu) (q73 kr z18) hn hk.k (fun v hv=>qm8 M bb d x R n i v (h.b.call (q02 hu hv)) kr hn hk.kn (hk.c 0 i rfl) (by have:=h.c n hn;rw[hk.kn] at this;exact this) (hE.call (q02 hu hv)))
theorem qo2 (h:BC M bb d x w) {R:Rel} {Rs:Nat->Rel} {S:Rel} {n i m t:Nat} {q:Nat->Nat} {cs:List Nat} (kr:KpC R) (krs:∀ j,j<m->KpC (Rs j)) (ks:KpC S) (hm:m<=100) (hn:n<d.nn) (hk:NdIs (d.nd n) 34 [] cs) (hl:cs.length=m+2) (hc0:cs[0]?=some i) (hcs:∀ j,j<m->cs[j+1]?=some (q j)) (hct:cs[m+1]?=some t) (hE:SubC 176 bb w i R) (hq:∀ j,j<m->SubC 176 bb w (q j) (Rs j)) (hA:SubC 166 bb w t S):SubC 166 bb w n (qv3 bb (qa4 R (qb9 bb (qa7 m Rs) S))):=fun u hu=>by
 have kp2:KpC (qb9 bb (qa7 m Rs) S):=q88 (q77 m krs) ks bb
 have hcp:=h.c n hn
 rw[hk.kn,hl] at hcp
 refine qj1 M bb d x _ n u (h.b.call hu) (q73 kr kp2) hn hk.k (fun v hv=>?_)
 have hwv:=q02 hu hv
 refine qm7 M bb d x R (qb9 bb (qa7 m Rs) S) n i (m+1) v (h.b.call hwv) kr kp2 hn (by rw[hk.kn,hl]) (hk.c 0 i hc0) (by omega) (by omega) (by omega) (hE.call hwv) (fun y kb ko c ha hkb hc hy=>?_)
 obtain ⟨kb',ko',e,hb',hcell⟩:=(h.call hwv).kids hn hk (by omega)
 rw[ha] at e
 cases e
 refine zj9 (w:=v) krs ks (by omega) hkb (fun j hj=>?_) ?_ (fun j hj=>(hq j hj).call hwv) (hA.call hwv) c ?_ y hy
 ·have:=hcell (j+1) (q j) (hcs j hj)
  rw[show ko+1 + j=ko+(j+1) by omega]
  exact this
 ·have:=hcell (m+1) t hct
  rw[show ko+1 + m=ko+(m+1) by omega]
  exact this
 ·omega
structure GN (d:FD) (k:Nat):Prop where
 nn:d.nn=k+3
 lit:∀ j,j<k->(d.nd j).k=23/\(d.nd j).n=1
 rest:(d.nd k).k=37
 ret:NdIs (d.nd (k+1)) 11 [] (List.range (k+1))
 blk:NdIs (d.nd (k+2)) 1 [] [k+1]
abbrev GRl (bb k:Nat) (A:Array Value):Rel:=IsBk 1 fun _=>IsSt bb A (yi2 (qb9 bb (qa7 k fun _=>qt1 (inD 1)) zd4))
theorem y67 (bb k:Nat) (A:Array Value):KpC (GRl bb k A):=qd8 1 fun _ _=>qd7 (z16 (q88 (q77 k fun _ _=>q93 _) qr0 bb)) bb A
theorem za2 (h:BC M bb d x w) {k:Nat} (hG:GN d k) (hk:k<=200) :
  Calls Tryz.prog 47 #[ptr bb] w fun e w'=>Mks (GRl bb k (q24 (d.nd (k+1)) (x.nas (k+1)))) w e w':=by
 have h1:k+1<d.nn:=by rw[hG.nn];omega
 have h2:k+2<d.nn:=by rw[hG.nn];omega
 have kpl:KpC (qb9 bb (qa7 k fun _=>qt1 (inD 1)) zd4):=q88 (q77 k fun _ _=>q93 _) qr0 bb
 refine qs2 M bb d x _ (k+2) w h.b hG.nn (by omega) (fun u hu=>?_)
 refine q98 M bb d x _ (k+2) u (h.b.call hu) (y67 bb k _) h2 hG.blk.k (fun u2 hu2=>?_)
 have hb2:=q02 hu hu2
 obtain ⟨kb,ko,e,hkb,hcell⟩:=(h.call hb2).kids h2 hG.blk (by simp)
 refine qe3 M bb d x _ (d.nd (k+2)) (x.nas (k+2)) 1 (fun _=>k+1) u2 (h.b.call hb2) (fun _ _=>qd7 (z16 kpl) bb _) (by omega) (by omega) hG.blk.kn (fun j hj=>⟨h1,by rw[hG.ret.k];decide,fun u3 hu3=>?_⟩) (by rw[e];exact zk2 hkb (fun j hj=>by obtain rfl:j=0:=(by omega);exact hcell 0 (k+1) rfl))
 have hb3:=q02 hb2 hu3
 refine qe9 M bb d x _ (k+1) u3 (h.b.call hb3) (z16 kpl) h1 (by rw[hG.ret.k];decide) (fun u4 hu4=>?_)
 have hb4:=q02 hb3 hu4
 refine qs6 bb _ (d.nd (k+1)) (x.nas (k+1)) u4 kpl hG.ret.k (fun u5 hu5=>?_)
 have hb5:=q02 hb4 hu5
 obtain ⟨kb,ko,e,hkb,hcell⟩:=(h.call hb5).kids h1 hG.ret (by simp)
 have hcp:=h.c (k+1) h1
 have hkn:(d.nd (k+1)).kn=k+1:=by rw[hG.ret.kn];simp
 rw[e,hkn]
 rw[hkn] at hcp
 exact zj9 (w:=u5) (m:=k) (q:=fun j=>j) (fun _ _=>q93 _) qr0 hk hkb (fun j hj=>hcell j j (by rw[List.getElem?_range (by omega)])) (hcell k k (by rw[List.getElem?_range (by omega)])) (fun j hj=>(yd1 h (by rw[hG.nn];omega) (hG.lit j hj)).call hb5) ((y43 h (by rw[hG.nn];omega) hG.rest).call hb5) _ (by omega) u5 (q20 _)
def NeR (bb:Nat) (v:Int):Nat->Rel
 |0=>qv3 bb (qa4 (qt0 v) IsNil)
 |n+1=>qv3 bb (qa4 (qt0 v) (qb9 bb (qa7 0 fun _=>IsNil) (NeR bb v n)))
theorem z78 (bb:Nat) (v:Int):∀ n,KpC (NeR bb v n)
 |0=>qf4 (q73 (q76 v) z18) bb
 |n+1=>qf4 (q73 (q76 v) (q88 (q77 0 fun _ h=>absurd h (Nat.not_lt_zero _)) (z78 bb v n) bb)) bb
structure MN (d:FD) (n:Nat):Prop where
 nn:d.nn=2*n+14
 fn:NdIs (d.nd 0) 36 [1] []
 lt:NdIs (d.nd 1) 2 [0] [0]
 vr:∀ i,i<n->NdIs (d.nd (2*i+2)) 26 [0] []
 c0:NdIs (d.nd 3) 34 [] [2]
 cl:∀ i,1<=i->i<n->NdIs (d.nd (2*i+3)) 34 [] [2*i+2,2*i+1]
 p0:(d.nd (2*n+2)).k=28/\(d.nd (2*n+2)).n=0
 p1:NdIs (d.nd (2*n+3)) 34 [] [2*n+2,2*n+1]
 p2:NdIs (d.nd (2*n+4)) 4 [] [2*n+3]
 p3:NdIs (d.nd (2*n+5)) 1 [] [2*n+4]
 q0:NdIs (d.nd (2*n+6)) 26 [1] []
 q1:NdIs (d.nd (2*n+7)) 26 [2] []
 q2:(d.nd (2*n+8)).k=28/\(d.nd (2*n+8)).n=0
 q3:NdIs (d.nd (2*n+9)) 34 [] [2*n+8,2*n+6,2*n+7]
 q4:NdIs (d.nd (2*n+10)) 4 [] [2*n+9]
 q5:NdIs (d.nd (2*n+11)) 1 [] [2*n+10]
 t0:NdIs (d.nd (2*n+12)) 12 [1,2] [2*n+5,2*n+11]
 t1:NdIs (d.nd (2*n+13)) 1 [] [1,2*n+12]
theorem zj8 (h:BC M bb d x w) {n:Nat} (hM:MN d n):∀ i,i<n->SubC 166 bb w (2*i+3) (NeR bb 0 i)
 |0,h0=>zt9 h (q76 0) (by rw[hM.nn];omega) hM.c0 (qz7 h (by rw[hM.nn];omega) (hM.vr 0 h0))
 |i+1,hi=>qo2 h (m:=0) (q:=fun _=>0) (q76 0) (fun _ c=>absurd c (Nat.not_lt_zero _)) (z78 bb 0 i) (by omega) (by rw[hM.nn];omega) (hM.cl (i+1) (by omega) hi) rfl rfl (fun _ c=>absurd c (Nat.not_lt_zero _)) rfl (qz7 h (by rw[hM.nn];omega) (hM.vr (i+1) hi)) (fun _ c=>absurd c (Nat.not_lt_zero _)) (by
   have:=zj8 h hM i (by omega)
   rw[show 2*(i+1)+1=2*i+3 by omega]
   exact this)
theorem z61 (h:BC M bb d x w) {S:Rel} {t s n:Nat} (ks:KpC S) (ht:t<d.nn) (hs:s<d.nn) (hT:NdIs (d.nd t) 1 [] [s]) (hS:NdIs (d.nd s) 4 [] [n]) (hA:SubC 166 bb w n S):SubC 80 bb w t (IsBk 1 fun _=>IsSt bb (q24 (d.nd s) (x.nas s)) (IsDo S)):=fun u hu=>by
 refine q98 M bb d x _ t u (h.b.call hu) (qd8 1 fun _ _=>qd7 (qr1 ks) bb _) ht hT.k (fun u2 hu2=>?_)
 have hb2:=q02 hu hu2
 obtain ⟨kb,ko,e,hkb,hcell⟩:=(h.call hb2).kids ht hT (by simp)
 refine qe3 M bb d x _ (d.nd t) (x.nas t) 1 (fun _=>s) u2 (h.b.call hb2) (fun _ _=>qd7 (qr1 ks) bb _) (by omega) (by omega) hT.kn (fun j hj=>⟨hs,by rw[hS.k];decide,fun u3 hu3=>?_⟩) (by rw[e];exact zk2 hkb (fun j hj=>by obtain rfl:j=0:=(by omega);exact hcell 0 s rfl))
 have hb3:=q02 hb2 hu3
 refine qe9 M bb d x _ s u3 (h.b.call hb3) (qr1 ks) hs (by rw[hS.k];decide) (fun u4 hu4=>?_)
 have hb4:=q02 hb3 hu4
 obtain ⟨kb,ko,e,hkb,hcell⟩:=(h.call hb4).kids hs hS (by simp)
 exact qv0 bb S (d.nd s) (x.nas s) kb ko n u4 ks hS.k (by rw[hS.kn];simp) e hkb (hcell 0 n rfl) (hA.call hb4)
abbrev FbR (bb n:Nat) (A:Array Value):Rel:=IsBk 1 fun _=>IsSt bb A (IsDo (qv3 bb (qa4 (qt1 prD) (qb9 bb (qa7 0 fun _=>IsNil) (NeR bb 0 n)))))
abbrev SbR (bb:Nat) (A:Array Value):Rel:=IsBk 1 fun _=>IsSt bb A (IsDo (qv3 bb (qa4 (qt1 prD) (qb9 bb (qa7 1 fun _=>qt0 1) (y28 (qt0 2))))))
theorem y04 (bb n:Nat) (A:Array Value):KpC (FbR bb n A):=qd8 1 fun _ _=>qd7 (qr1 (qf4 (q73 (q93 _) (q88 (q77 0 fun _ h=>absurd h (Nat.not_lt_zero _)) (z78 bb 0 n) bb)) bb)) bb A
theorem zu6 (bb:Nat) (A:Array Value):KpC (SbR bb A):=qd8 1 fun _ _=>qd7 (qr1 (qf4 (q73 (q93 _) (q88 (q77 1 fun _ _=>q76 1) (z17 (q76 2)) bb)) bb)) bb A
def MsR (M bb n:Nat) (ups:Value) (A1 A2 A3 A4:Array Value) (j:Nat):Rel:=if j=0 then IsSt bb A1 (y29 A1 (zj4 (IsCl M ups 1))) else IsSt bb A4 (yi1 M A4 (FbR bb n A2) (SbR bb A3))
theorem zk7 (M bb n:Nat) (ups:Value) (A1 A2 A3 A4:Array Value) (j:Nat):KpC (MsR M bb n ups A1 A2 A3 A4 j):=by
 unfold MsR
 split
 ·exact qd7 (zl4 (z19 (z21 M ups 1)) A1) bb A1
 ·exact qd7 (zl3 (y04 bb n A2) (zu6 bb A3) M A4) bb A4
theorem z83 (h:BC M bb d x w) {n:Nat} {ups:Value} (hM:MN d (n+1)) (hn:n<=100) (hcl:SubC 224 bb w 1 (IsCl M ups 1)) :
  Calls Tryz.prog 47 #[ptr bb] w fun e w'=>Mks (IsBk 2 (MsR M bb n ups (q24 (d.nd 1) (x.nas 1)) (q24 (d.nd (2*(n+1)+4)) (x.nas (2*(n+1)+4))) (q24 (d.nd (2*(n+1)+10)) (x.nas (2*(n+1)+10))) (q24 (d.nd (2*(n+1)+12)) (x.nas (2*(n+1)+12))))) w e w':=by
 obtain ⟨m,hm⟩:∃ m,n+1=m:=⟨_,rfl⟩
 have hl:∀ i,i<2*m+14->i<d.nn:=fun i hi=>by rw[hM.nn];omega
 rw[hm] at hM ⊢
 have hA:SubC 166 bb w (2*m+3) (qv3 bb (qa4 (qt1 prD) (qb9 bb (qa7 0 fun _=>IsNil) (NeR bb 0 n)))):=qo2 h (m:=0) (q:=fun _=>0) (q93 _) (fun _ c=>absurd c (Nat.not_lt_zero _)) (z78 bb 0 n) (by omega) (hl _ (by omega)) hM.p1 rfl rfl (fun _ c=>absurd c (Nat.not_lt_zero _)) rfl (ya0 h (hl _ (by omega)) hM.p0) (fun _ c=>absurd c (Nat.not_lt_zero _)) (by
   have:=zj8 h hM n (by omega)
   rw[show 2*m+1=2*n+3 by omega]
   exact this)
 have hB:SubC 166 bb w (2*m+9) (qv3 bb (qa4 (qt1 prD) (qb9 bb (qa7 1 fun _=>qt0 1) (y28 (qt0 2))))):=qo2 h (m:=1) (q:=fun _=>2*m+6) (q93 _) (fun _ _=>q76 1) (z17 (q76 2)) (by omega) (hl _ (by omega)) hM.q3 rfl rfl (fun j hj=>by obtain rfl:j=0:=(by omega);rfl) rfl (ya0 h (hl _ (by omega)) hM.q2) (fun j hj=>qz7 h (hl _ (by omega)) hM.q0) (zo1 h (hl _ (by omega)) hM.q1)
 have hF:=z61 h (qf4 (q73 (q93 _) (q88 (q77 0 fun _ h=>absurd h (Nat.not_lt_zero _)) (z78 bb 0 n) bb)) bb) (hl _ (by omega)) (hl _ (by omega)) hM.p3 hM.p2 hA
 have hS:=z61 h (qf4 (q73 (q93 _) (q88 (q77 1 fun _ _=>q76 1) (z17 (q76 2)) bb)) bb) (hl _ (by omega)) (hl _ (by omega)) hM.q5 hM.q4 hB
 have kpm:=zk7 M bb n ups (q24 (d.nd 1) (x.nas 1)) (q24 (d.nd (2*m+4)) (x.nas (2*m+4))) (q24 (d.nd (2*m+10)) (x.nas (2*m+10))) (q24 (d.nd (2*m+12)) (x.nas (2*m+12)))
 refine qs2 M bb d x _ (2*m+13) w h.b hM.nn (by omega) (fun u hu=>?_)
 refine q98 M bb d x _ (2*m+13) u (h.b.call hu) (qd8 2 fun j _=>kpm j) (hl _ (by omega)) hM.t1.k (fun u2 hu2=>?_)
 have hb2:=q02 hu hu2
 obtain ⟨kb,ko,e,hkb,hcell⟩:=(h.call hb2).kids (hl _ (by omega)) hM.t1 (by simp)
 refine qe3 M bb d x _ (d.nd (2*m+13)) (x.nas (2*m+13)) 2 (fun j=>if j=0 then 1 else 2*m+12) u2 (h.b.call hb2) (fun j _=>kpm j) (by omega) (by omega) hM.t1.kn (fun j hj=>?_) (by rw[e];exact zk2 hkb (fun j hj=>by
  rcases (show j=0\/j=1 by omega) with rfl|rfl
  ·exact hcell 0 1 rfl
  ·exact hcell 1 (2*m+12) rfl))
 rcases (show j=0\/j=1 by omega) with rfl|rfl
 ·refine ⟨hl 1 (by omega),by show (d.nd 1).k≠14;rw[hM.lt.k];decide,fun u3 hu3=>?_⟩
  have hb3:=q02 hb2 hu3
  have kl:KpC (y29 (q24 (d.nd 1) (x.nas 1)) (zj4 (IsCl M ups 1))):=zl4 (z19 (z21 M ups 1)) _
  refine qe9 M bb d x _ 1 u3 (h.b.call hb3) kl (hl _ (by omega)) (by rw[hM.lt.k];decide) (fun u4 hu4=>?_)
  have hb4:=q02 hb3 hu4
  refine qs7 bb _ (d.nd 1) (x.nas 1) u4 kl hM.lt.k (fun u5 hu5=>?_)
  have hb5:=q02 hb4 hu5
  obtain ⟨kb,ko,e,hkb,hcell⟩:=(h.call hb5).kids (hl 1 (by omega)) hM.lt (by simp)
  refine zp9 bb _ (d.nd 1) (x.nas 1) kb ko 0 u5 (z21 M ups 1) hM.lt.rn hM.lt.kn e hkb (hcell 0 0 rfl) (fun u6 hu6=>?_)
  have hb6:=q02 hb5 hu6
  exact zb1 M bb d x _ 0 1 u6 (h.b.call hb6) (z21 M ups 1) (hl _ (by omega)) hM.fn.k (by rw[hM.fn.rn];simp) (hM.fn.r 0 1 rfl) (hcl.call hb6)
 ·refine ⟨hl (2*m+12) (by omega),by show (d.nd (2*m+12)).k≠14;rw[hM.t0.k];decide,fun u3 hu3=>?_⟩
  have hb3:=q02 hb2 hu3
  have kl:=zl3 (y04 bb n (q24 (d.nd (2*m+4)) (x.nas (2*m+4)))) (zu6 bb (q24 (d.nd (2*m+10)) (x.nas (2*m+10)))) M (q24 (d.nd (2*m+12)) (x.nas (2*m+12)))
  refine qe9 M bb d x _ (2*m+12) u3 (h.b.call hb3) kl (hl _ (by omega)) (by rw[hM.t0.k];decide) (fun u4 hu4=>?_)
  have hb4:=q02 hb3 hu4
  refine qs5 bb _ (d.nd (2*m+12)) (x.nas (2*m+12)) u4 kl hM.t0.k (fun u5 hu5=>?_)
  have hb5:=q02 hb4 hu5
  obtain ⟨kb,ko,e,hkb,hcell⟩:=(h.call hb5).kids (hl (2*m+12) (by omega)) hM.t0 (by simp)
  exact zo0 M bb _ _ (d.nd (2*m+12)) (x.nas (2*m+12)) _ kb ko (2*m+5) (2*m+11) u5 (y04 bb n _) (zu6 bb _) hM.t0.k hM.t0.kn e hkb (h.b.call hb5).b (hcell 0 _ rfl) (hcell 1 _ rfl) (hF.call hb5) (hS.call hb5)
end
theorem zu5:qs9:=fun L u a cap fas w hs h5 _ hc hT=>ql9 L u a cap fas w hs h5 hc hT
theorem qr2 (L:Nat) (u:UD) (a:Option Addr) (cap:Nat) (fas:Nat->FA) (w:World) (hs:u.sm) (hc:∀ i,i<u.n->CapF (u.fn i) (fas i)) (hT:FnsAt L w u.n u.fn a fas) :
  Calls Tryz.prog 24 #[unV u a cap] w fun e w'=>FtPost (BadU u) w e w':=zc0 yg2 zu5 L u a cap fas w hs hc hT
end Go.Proofs.YtaimofjekgnieaaGreatDoor
