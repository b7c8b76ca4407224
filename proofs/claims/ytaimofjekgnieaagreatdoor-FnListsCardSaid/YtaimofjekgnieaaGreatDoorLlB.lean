import Derived.Test.YtaimofjekgnieaaGreatDoorGpV
import Derived.Test.YtaimofjekgnieaaGreatDoorLlA
import Derived.Test.YtaimofjekgnieaaGreatDoorLcE
import Derived.Test.YtaimofjekgnieaaGreatDoorLcL
set_option maxRecDepth 100000
set_option maxHeartbeats 16000000
namespace Go.Proofs.YtaimofjekgnieaaGreatDoor
open Go.RowKit
theorem NdF.is {q:ND} {k n:Int} {rs cs:List Nat} (h:NdF q k n rs cs):NdIs q k rs cs:=⟨h.k,h.rn,h.r,h.kn,h.c⟩
theorem GF.gn {d:FD} {k:Nat} (h:GF d k):GN d k:=⟨h.nn,fun j hj=>⟨(h.lit j hj).f.k,(h.lit j hj).f.n⟩,h.rest.f.k,h.ret.f.is,h.blk.f.is⟩
theorem MF.mn {d:FD} {n:Nat} (h:MF d n):MN d n:=⟨h.nn,h.fn.f.is,h.lt.f.is,fun i hi=>(h.vr i hi).f.is,h.c0.f.is,fun i h1 hi=>(h.cl i h1 hi).f.is,⟨h.p0.f.k,h.p0.f.n⟩,h.p1.f.is,h.p2.f.is,h.p3.f.is,h.q0.f.is,h.q1.f.is,⟨h.q2.f.k,h.q2.f.n⟩,h.q3.f.is,h.q4.f.is,h.q5.f.is,h.t0.f.is,h.t1.f.is⟩
theorem NdF.sm {q:ND} {k n:Int} {rs cs:List Nat} (h:NdF q k n rs cs) (h1:rs.length<=1000) (h2:cs.length<=1000):q.sm:=⟨by rw[h.s];exact of_decide_eq_true rfl,by rw[h.rn];omega,by rw[h.kn];omega⟩
theorem GF.sm {d:FD} {k:Nat} (h:GF d k) (hk:k<=200):d.sm:=⟨by have:=h.nm;omega,by rw[h.vn];omega,fun i hi=>by rw[h.vn] at hi;omega,by rw[h.un];omega,by rw[h.nn];omega,fun i hi=>by
 rw[h.nn] at hi
 rcases (show i<k\/i=k\/i=k+1\/i=k+2 by omega) with c|rfl|rfl|rfl
 ·exact (h.lit i c).f.sm (by simp) (by simp)
 ·exact h.rest.f.sm (by simp) (by simp)
 ·exact h.ret.f.sm (by simp) (by simp;omega)
 ·exact h.blk.f.sm (by simp) (by simp)⟩
theorem z79 {n a:Nat} {k:Int} {rs cs:List Nat} (c:MCase n a k rs cs):rs.length<=1000/\cs.length<=1000:=by
 cases c<;>simp
theorem MF.sm {d:FD} {n:Nat} (h:MF d n) (h1:1<=n) (hn:n<=200):d.sm:=⟨by have:=h.nm;omega,by rw[h.vn];omega,fun i hi=>by rw[h.vn] at hi;have:=(h.v i hi).2;omega,by rw[h.un];omega,by rw[h.nn];omega,fun i hi=>by
 rw[h.nn] at hi
 obtain ⟨k,rs,cs,c⟩:=mcase h1 i hi
 exact (h.at c).sm (z79 c).1 (z79 c).2⟩
theorem NdS.i64 {q:ND} {k:Int} {rs cs:List Nat} (h:NdS q k rs cs):I64r q.l:=⟨by have:=h.l1;omega,by have:=h.l2;omega⟩
theorem zu9 {k n ub:Nat} {fn:Nat->FD} {fas:Nat->FA} {w:World} (hk1:1<=k) (hk:k<=90) (hn:n+1<=8) (hf:FnsAt 0 w 2 fn (some ⟨ub,0,none⟩) fas) (hc:∀ j,j<2->CapF (fn j) (fas j)) (hG:GF (fn 1) k) (hM:MF (fn 0) (n+1)) (hT:TabP w) (hE:EtP w):RunPre ⟨2,fn⟩ ub 0 fas k n w:=by
 refine ⟨⟨by show 2<=1048576;omega,fun i hi=>?_⟩,rfl,yp6 rfl hG hM (by omega) (by omega) (by omega),⟨hf,hc,hG.gn,hM.mn,hk1,by omega,by omega,fun j hj=>?_,hM.vn,hG.vn,hG.un,hG.ret.i64,hM.p2.i64⟩,hT,hE⟩
 ·rcases (show i=0\/i=1 by replace hi:i<2:=hi;omega) with rfl|rfl
  ·exact hM.sm (by omega) (by omega)
  ·exact hG.sm (by omega)
 ·rcases (show j=0\/j=1 by omega) with rfl|rfl
  ·exact ⟨hM.p,hM.r,by have:=hM.nm;show (fn 0).name.size<=1000;omega⟩
  ·exact ⟨hG.p,hG.r,by have:=hG.nm;show (fn 1).name.size<=1000;omega⟩
theorem z01:∀ (a:List RcD),(∀ x,x∈a->x.k≠6)->a.flatMap prF=[]
 |[],_=>rfl
 |x :: a,h=>by
  have e:prF x=[]:=by unfold prF;rw[if_neg (h x (by simp))]
  rw[List.flatMap_cons,e,z01 a fun y hy=>h y (by simp[hy])]
  rfl
theorem zo6 {m:Nat} {l:List RcD} (h:QOk m l):prL (fun i=>l.getD i rc0) l.length=[.string (q43 txN (q42 m))]:=by
 obtain ⟨_,a,L,rfl,ha⟩:=h
 rw[zv7,List.flatMap_append,z01 a ha]
 rfl
theorem zf3 {l:List RcD} (h:QBad l):∃ s:ByteArray,s.size<=3000/\prL (fun i=>l.getD i rc0) l.length=[.string (q43 txC [tbD,stD s])]/\∃ i,i<l.length/\(l.getD i rc0).k=4/\(l.getD i rc0).s=sEc 52:=by
 obtain ⟨_,a,L,s,rfl,hs,ha,y,hy,h4,h5⟩:=h
 refine ⟨s,hs,?_,?_⟩
 ·rw[zv7,List.flatMap_append,z01 a ha]
  rfl
 ·obtain ⟨i,hi,e⟩:=List.getElem_of_mem hy
  have e':(a++[(⟨6,0,0,L,q43 txC [tbD,stD s]⟩:RcD)]).getD i rc0=y:=by
   rw[za1 hi,<-e]
   simp[List.getD_eq_getElem?_getD,hi]
  refine ⟨i,by simp;omega,?_⟩
  rw[e']
  exact ⟨h4,h5⟩
theorem yc8 (s:ByteArray):(q43 txC [tbD,stD s]).extract 0 5=⟨#[116,97,98,108,101]⟩:=by
 have e:q43 txC [tbD,stD s]=⟨([116,97,98,108,101,32]++s.data.toList).toArray⟩:=by
  unfold q43
  congr 2
  show Lib.join [sTab.data.toList,s.data.toList] [32]=_
  rw[Lib.join_cons]
  show sTab.data.toList++((([32]++s.data.toList) :: []).flatten)=_
  simp
 rw[e]
 apply ByteArray.ext
 show (ByteArray.extract _ 0 5).data=_
 rw[ByteArray.data_extract]
 apply Array.toList_inj.1
 simp
end Go.Proofs.YtaimofjekgnieaaGreatDoor
namespace Go.Proofs.YtaimofjekgnieaaGreatDoor
open Go.RowKit
attribute [local go_sem] q00
attribute [local go_sem ↓] Go.wp_at_zero Go.wp_at_succ
theorem zw1 {u:World} {N:Nat} {a:Option Addr} {c:Nat} {s:ByteArray} (h:u.ownsRow N 9 1 (.slice a 1 c) 1 [.string s]):∃ g,a=some ⟨g,0,none⟩/\g<u.heap.size/\u.cell? ⟨g,0,none⟩=some (.string s)/\1<=c:=by
 rcases h.2 with ⟨_,e⟩|⟨g,c',cur,e,h1,h2,h3,_⟩
 ·omega
 ·have e1:a=some ⟨g,0,none⟩:=by injection e
  have e2:c=c':=by injection e
  have hc:=h.cells (g:=g) (by rw[e1];rfl) 0 (.string s) rfl
  exact ⟨g,e1,(Array.getElem?_eq_some_iff.1 h2).1,by simpa[Addr.add] using hc,by omega⟩
theorem za3 (a:Option Addr) (len cap:Nat) (zs:List Int) (w:World) (hR:y94 w a len cap zs) (hT:TabP w) (hEt:EtP w) :
  Calls Tryz.prog 3 #[.slice a len cap] w fun e w'=>e=.returned (.bool true)/\Below w.heap.size w w':=by
 have HR:Hid (y94 w a len cap zs):=hR
 have HT:Hid (TabP w):=hT
 have HEt:Hid (EtP w):=hEt
 clear hR hT hEt
 by_cases hl:1048576<len
 ·go_enter Tryz.func3,Tryz.ntmps3
  go_wp2_with fail
  go_ret
  exact ⟨rfl,Below.refl _ _⟩
 ·go_enter Tryz.func3,Tryz.ntmps3
  go_wp2_with fail
  refine (qn7 a len cap zs 0 _ HR.out (by omega) (by omega) (by omega)).mono ?_
  rintro e w1 ⟨⟨v0,h01,h02,rfl⟩,rfl⟩
  go_wp2_with fail
  refine (qn7 a len cap zs 1 _ HR.out (by omega) (by omega) (by omega)).mono ?_
  rintro e w1 ⟨⟨v1,h11,h12,rfl⟩,rfl⟩
  go_wp2_with fail
  obtain ⟨k,hk⟩:∃ k:Nat,1+v0%90=(k:Int):=⟨(1+v0%90).toNat,by omega⟩
  obtain ⟨n,hn⟩:∃ n:Nat,1+v1%8=((n+1:Nat):Int):=⟨(v1%8).toNat,by omega⟩
  rw[hk,hn]
  have k1:1<=k:=by omega
  have k2:k<=90:=by omega
  have n2:n+1<=8:=by omega
  clear hk hn h01 h02 h11 h12
  generalize v0%90=z0
  generalize v1%8=z1
  refine (qp9 k (n+1) _ k2 (by omega) n2).mono ?_
  rintro e w2 ⟨ub,uc,fn,fas,rfl,hfn,hcap,hG,hM,hb2⟩
  have H2:Hid (RunPre ⟨2,fn⟩ ub 0 fas k n w2/\Below w1.heap.size w1 w2):=⟨zu9 k1 k2 n2 hfn hcap hG hM (TabP.keep HT.out hb2 (Nat.le_refl _)) (EtP.keep HEt.out hb2 (Nat.le_refl _)),hb2⟩
  clear hfn hcap hG hM hb2
  go_wp2_with fail
  refine (zu8 ⟨2,fn⟩ ub 0 uc fas k n _ H2.out.1).mono ?_
  rintro e w3 ⟨l,ti,md,ra,rc,hq,rfl,hr,hb3⟩
  obtain ⟨m,hm⟩:∃ m:Nat,(n+1)*k=m:=⟨_,rfl⟩
  have hmI:((n:Int)+1)*(k:Int)=(m:Int):=by rw[<-hm,Int.natCast_mul];rfl
  have m1:1<=m:=by rw[<-hm];exact Nat.mul_pos (by omega) (by omega)
  have m2:m<=720:=by rw[<-hm];exact Nat.le_trans (Nat.mul_le_mul n2 k2) (by omega)
  have HQ:Hid (QU k (n+1) l):=hq
  have hll:l.length<=200:=by
   unfold QU at hq
   split at hq<;>exact hq.1
  obtain ⟨ln,hln⟩:∃ ln,l.length=ln:=⟨_,rfl⟩
  have H3:Hid (RcsAt 0 w3 ra ln (fun i=>l.getD i rc0)/\Below w1.heap.size w1 w3/\l.length=ln):=⟨by rw[<-hln];exact hr,q02 H2.out.2 hb3,hln⟩
  rw[hln]
  rw[hln] at hll
  clear hr hb3 hq hln H2
  go_wp2_with fail
  refine (qy6 0 ra ln rc none 0 0 ⟨#[]⟩ ⟨#[]⟩ ti md (fun i=>l.getD i rc0) _ (by omega) (RowN.alloc H3.out.1 _)).mono ?_
  rintro e w4 ⟨⟨oa,oc,rfl,ho⟩,hb4⟩
  have hO4:Has w4 w3.heap.size #[.int .i64 0,.slice ra ln rc,.slice none 0 0,.string ⟨#[]⟩,.string ⟨#[]⟩,.int .i64 ti,.int .i64 md]:=(Has.new _ _ _).call hb4
  have H4:Hid (Below w1.heap.size w1 w4/\RcsAt 0 w4 ra ln (fun i=>l.getD i rc0)):=⟨q02 (H3.out.2.1.alloc H3.out.2.1.size _) hb4,RowN.below (RowN.alloc H3.out.1 _) hb4⟩
  have r0:=hO4.cell 0 rfl
  have r1:=hO4.cell 1 rfl
  have r2:=hO4.cell 2 rfl
  have r3:=hO4.cell 3 rfl
  have r4:=hO4.cell 4 rfl
  have r5:=hO4.cell 5 rfl
  have r6:=hO4.cell 6 rfl
  clear hO4 hb4
  by_cases hc:m<=250
  ·have hqk:QOk m l:=by
    have:=HQ.out
    unfold QU at this
    rw[hm,if_pos hc] at this
    exact this
   have hp:=zo6 hqk
   rw[H3.out.2.2] at hp
   rw[show (prL (fun i=>l.getD i rc0) ln).length=1 by rw[hp];rfl]
   rw[hp] at ho
   obtain ⟨m',rfl⟩:∃ m',m=m'+1:=⟨m-1,by omega⟩
   rw[zy3 m'] at ho
   obtain ⟨g,rfl,hg,hcell,_⟩:=zw1 ho
   have HP:Hid (w4.cell? ⟨g,0,none⟩=some (.string (bA (wtB m')))):=hcell
   have hmn:¬(250:Int)<((m'+1:Nat):Int):=by omega
   have hw:IntKind.i64.wrap ((m'+1:Nat):Int)=((m'+1:Nat):Int):=qb1 (by omega) (by omega)
   clear ho hp hqk hcell hm HQ
   go_wp2_with fail
   have hd1:decide (1048576<(len:Int))=false:=by simp;omega
   rw[hd1]
   clear hd1
   go_loopw [7,8] (fun v i wr=>∃ t:Nat,t<=m'/\v=.string (bA (wtB t))/\i=.int .i64 ((t:Int)+1)/\wr=w4) (fun _ i _=>m'+1-(intOf i).toNat)
   case atStart=>exact ⟨0,Nat.zero_le _,rfl,rfl,rfl⟩
   case round=>
    obtain ⟨t,ht,rfl,rfl,rfl⟩:=hrel
    have hsz:(bA (wtB t)).size=2*t+1:=by rw[zj0,zs0]
    by_cases htm:t<m'
    ·have hw2:IntKind.i64.wrap ((t:Int)+1 + 1)=(t:Int)+1 + 1:=qb1 (by omega) (by omega)
     go_wp2_with fail
     go_roundw
     case rel=>exact ⟨t+1,by omega,by rw[y31],by go_num,trivial⟩
     case measure=>simp[intOf];omega
    ·obtain rfl:t=m':=by omega
     have hcell:=HP.out
     go_wp2_with fail
     go_ret
     exact ⟨rfl,H4.out.1⟩
  ·have hqk:QBad l:=by
    have:=HQ.out
    unfold QU at this
    rw[hm,if_neg hc] at this
    exact this
   obtain ⟨s,hs,hp,i0,hi0,h4⟩:=zf3 hqk
   rw[H3.out.2.2] at hp hi0
   rw[show (prL (fun i=>l.getD i rc0) ln).length=1 by rw[hp];rfl]
   rw[hp] at ho
   obtain ⟨g,rfl,hg,hcell,_⟩:=zw1 ho
   have hsz:=qx3 s
   have hex:=yc8 s
   obtain ⟨T,hT⟩:∃ T,q43 txC [tbD,stD s]=T:=⟨_,rfl⟩
   rw[hT] at hcell hsz hex
   have hmn:(250:Int)<(m:Int):=by omega
   have hw:IntKind.i64.wrap (m:Int)=(m:Int):=qb1 (by omega) (by omega)
   clear ho hp hqk hm HQ hT
   go_wp2_with fail
   refine (zd8 0 ra ln rc none 0 0 ⟨#[]⟩ ⟨#[]⟩ (sEc 52) ti md (fun i=>l.getD i rc0) i0 _ (by omega) hi0 h4 H4.out.2).mono ?_
   rintro e w5 ⟨rfl,hb5⟩
   have H5:Hid (Below w1.heap.size w1 w5):=q02 H4.out.1 hb5
   have hc5:w5.cell? ⟨g,0,none⟩=some (.string T):=(hb5.cell (p:=⟨g,0,none⟩) hg).trans hcell
   have hg5:g<w5.heap.size:=Nat.lt_of_lt_of_le hg hb5.size
   have hT5:5<=T.size:=by omega
   have hT6:(5:Int)<(T.size:Int):=by omega
   clear hb5 hcell hg r0 r1 r2 r3 r4 r5 r6 h4 hi0
   go_wp2_with fail
   go_ret
   exact ⟨rfl,H5.out⟩
end Go.Proofs.YtaimofjekgnieaaGreatDoor
