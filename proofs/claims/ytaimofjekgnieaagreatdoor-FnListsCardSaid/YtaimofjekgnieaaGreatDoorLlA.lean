import Derived.Test.YtaimofjekgnieaaGreatDoorUnC
import Derived.Test.YtaimofjekgnieaaGreatDoorJnA
import Derived.Test.YtaimofjekgnieaaGreatDoorGpD
import Derived.Test.YtaimofjekgnieaaGreatDoorRowB
set_option maxRecDepth 100000
set_option maxHeartbeats 16000000
namespace Go.Proofs.YtaimofjekgnieaaGreatDoor
open Go.RowKit
attribute [local go_sem] q00
attribute [local go_sem ↓] Go.wp_at_zero Go.wp_at_succ
def prL (q:Nat->RcD):Nat->List Value
 |0=>[]
 |k+1=>prL q k++(if (q k).k=6 then [.string (q k).s] else [])
theorem zv6 (q:Nat->RcD):∀ k,(prL q k).length<=k
 |0=>Nat.le_refl _
 |k+1=>by
  have:=zv6 q k
  unfold prL
  split<;>simp<;>omega
abbrev repV (c:Int) (ra:Option Addr) (n rc:Nat) (va:Option Addr) (vn vc:Nat) (er tr:ByteArray) (ti md:Int):Value:=.agg #[.int .i64 c,.slice ra n rc,.slice va vn vc,.string er,.string tr,.int .i64 ti,.int .i64 md]
theorem qy6 (c:Int) (ra:Option Addr) (n rc:Nat) (va:Option Addr) (vn vc:Nat) (er tr:ByteArray) (ti md:Int) (q:Nat->RcD) (w:World) (hn:n<=2000) (hr:RcsAt 0 w ra n q) :
  Calls Tryz.prog 7 #[repV c ra n rc va vn vc er tr ti md] w fun e w'=>(∃ a k,e=.returned (.slice a (prL q n).length k)/\w'.ownsRow w.heap.size 9 1 (.slice a (prL q n).length k) (prL q n).length (prL q n))/\Below w.heap.size w w':=by
 have HR:Hid (RcsAt 0 w ra n q):=hr
 clear hr
 go_enter Tryz.func7,Tryz.ntmps7
 go_wp2_with fail
 obtain ⟨w0,hw0⟩:∃ w0,w.alloc (.cells #[.int .i64 c,.slice ra n rc,.slice va vn vc,.string er,.string tr,.int .i64 ti,.int .i64 md] 27)=w0:=⟨_,rfl⟩
 have H0:Hid (Below w.heap.size w w0):=by rw[<-hw0];exact q01 _ _
 rw[hw0]
 clear hw0
 go_loopw [3,9] (fun v i wr=>∃ k a oc,k<=n/\v=.slice a (prL q k).length oc/\i=.int .i64 (k:Int)/\Hid (wr.ownsRow w.heap.size 9 1 (.slice a (prL q k).length oc) (prL q k).length (prL q k)/\Below w.heap.size w wr)) (fun _ i _=>n-(intOf i).toNat)
 case atStart=>exact ⟨0,none,0,Nat.zero_le _,rfl,rfl,World.ownsRow_nil _ _ _ _,H0.out⟩
 case round=>
  obtain ⟨k,a,oc,hk,rfl,rfl,HO⟩:=hrel
  by_cases hkn:k<n
  ·obtain ⟨b,off,e1,_,hb,c0,c1,c2,c3,c4⟩:=yb1 (RowN.below HR.out HO.out.2) hkn
   rw[e1]
   have hpl:=zv6 q k
   by_cases h6:(q k).k=6
   ·obtain ⟨m,hm⟩:∃ m,(prL q k).length=m:=⟨_,rfl⟩
    have HM:Hid ((prL q k).length=m):=hm
    rw[hm] at HO hpl
    rw[hm]
    clear hm
    obtain ⟨i0,hi0,hy0,hy1,hy2⟩:=info_parts z24
    have hO7:World.ownsRow ((wr.alloc (.cells #[.int .i64 6,.int .i64 (q k).t,.int .i64 (q k).f,.int .i64 (q k).l,.string (q k).s] 57)).alloc (.cells #[.string (q k).s] 9)) w.heap.size 9 1 (.slice a m oc) m (prL q k):=q18 HO.out.1 (q04 _ _ _)
    obtain ⟨v',w7,happ,hown,hgrow,_,hat⟩:=run_append_own_at (P:=Tryz.prog) ((wr.alloc (.cells #[.int .i64 6,.int .i64 (q k).t,.int .i64 (q k).f,.int .i64 (q k).l,.string (q k).s] 57)).alloc (.cells #[.string (q k).s] 9)) w.heap.size 25 25 9 i0 _ 1 16 Tryz.underlying25 hi0 hy0 hy1 hy2 rfl (by decide) (.slice a m oc) m (prL q k) hO7 ⟨wr.heap.size+1,0,none⟩ 1 1 [.string (q k).s] rfl (fun j v e=>by
     have hn:=q85 (wr.alloc (.cells #[.int .i64 6,.int .i64 (q k).t,.int .i64 (q k).f,.int .i64 (q k).l,.string (q k).s] 57)) #[.string (q k).s] 9 j v e
     rw[World.size_alloc] at hn
     exact hn) (by simp[Value.oneCell']) (by unfold maxLen;omega) (by omega) (by have:=HO.out.2.size;simp;omega)
    obtain ⟨oa',oc',rfl⟩:=q33 hown
    have hp1:prL q (k+1)=prL q k++[.string (q k).s]:=by show prL q k++(if (q k).k=6 then [.string (q k).s] else [])=_;rw[if_pos h6]
    have HN:Hid (w7.ownsRow w.heap.size 9 1 (.slice oa' (prL q (k+1)).length oc') (prL q (k+1)).length (prL q (k+1))/\Below w.heap.size w w7/\(prL q (k+1)).length=m+1):=by
     have hl:(prL q (k+1)).length=m+1:=by rw[hp1,List.length_append,HM.out];rfl
     refine ⟨?_,(((HO.out.2.alloc HO.out.2.size _).alloc (by have:=HO.out.2.size;simp;omega) _).grown hgrow (by have:=HO.out.2.size;simp;omega) (fun z e=>(q09 HO.out.1 ((q08 _ _ _).symm.trans e)).1)),hl⟩
     rw[hl,hp1]
     exact hown
    clear hown hgrow hat hO7 hi0 hy0 hy1 hy2 hp1
    go_wp2_with (at_builtin;refine q25 (by rfl) _ _ _ _ (by rfl) (.slice a m oc) (.slice (some ⟨wr.heap.size+1,0,none⟩) 1 1) _ _ (by rfl) (by rfl) happ ?_)
    go_roundw
    case rel=>exact ⟨k+1,oa',oc',by omega,by rw[HN.out.2.2],by go_num,HN.out.1,HN.out.2.1⟩
    case measure=>simp[intOf];omega
   ·go_wp2_with fail
    go_roundw
    case rel=>
     have hp1:prL q (k+1)=prL q k:=by show prL q k++(if (q k).k=6 then [.string (q k).s] else [])=_;rw[if_neg h6];simp
     exact ⟨k+1,a,oc,by omega,by rw[hp1],by go_num,by rw[hp1];exact ⟨q18 HO.out.1 (q01 _ _),HO.out.2.alloc HO.out.2.size _⟩⟩
    case measure=>simp[intOf];omega
  ·obtain rfl:k=n:=by omega
   go_wp2_with fail
   go_ret
   exact ⟨⟨a,oc,rfl,HO.out.1⟩,HO.out.2⟩
def prF (r:RcD):List Value:=if r.k=6 then [.string r.s] else []
theorem zk5 (l:List RcD) (d:RcD):∀ k,k<=l.length->prL (fun i=>l.getD i d) k=(l.take k).flatMap prF
 |0,_=>by simp[prL]
 |k+1,h=>by
  have ih:=zk5 l d k (by omega)
  have hk:k<l.length:=by omega
  show prL (fun i=>l.getD i d) k++(if (l.getD k d).k=6 then [.string (l.getD k d).s] else [])=_
  rw[ih,List.take_add_one,List.flatMap_append]
  congr 1
  have e:l[k]?=some (l.getD k d):=by simp[List.getD,List.getElem?_eq_getElem hk]
  rw[e]
  simp[prF]
theorem zv7 (l:List RcD) (d:RcD):prL (fun i=>l.getD i d) l.length=l.flatMap prF:=by rw[zk5 l d _ (Nat.le_refl _),List.take_length]
theorem zd8 (c:Int) (ra:Option Addr) (n rc:Nat) (va:Option Addr) (vn vc:Nat) (er tr t:ByteArray) (ti md:Int) (q:Nat->RcD) (i0:Nat) (w:World) (hn:n<=2000) (hi:i0<n) (h4:(q i0).k=4/\(q i0).s=t) (hr:RcsAt 0 w ra n q) :
  Calls Tryz.prog 8 #[repV c ra n rc va vn vc er tr ti md,.string t] w fun e w'=>e=.returned (.bool true)/\Below w.heap.size w w':=by
 have HR:Hid (RcsAt 0 w ra n q):=hr
 have H4:Hid ((q i0).k=4/\(q i0).s=t):=h4
 clear hr h4
 go_enter Tryz.func8,Tryz.ntmps8
 go_wp2_with fail
 obtain ⟨w0,hw0⟩:∃ w0,w.alloc (.cells #[.int .i64 c,.slice ra n rc,.slice va vn vc,.string er,.string tr,.int .i64 ti,.int .i64 md] 27)=w0:=⟨_,rfl⟩
 have H0:Hid (Below w.heap.size w w0):=by rw[<-hw0];exact q01 _ _
 rw[hw0]
 clear hw0
 go_loopw [10] (fun i wr=>∃ k:Nat,k<=i0/\i=.int .i64 (k:Int)/\Hid (Below w.heap.size w wr)) (fun i _=>n-(intOf i).toNat)
 case atStart=>exact ⟨0,Nat.zero_le _,rfl,H0⟩
 case round=>
  obtain ⟨k,hk,rfl,HO⟩:=hrel
  have hkn:k<n:=by omega
  obtain ⟨b,off,e1,_,hb,c0,c1,c2,c3,c4⟩:=yb1 (RowN.below HR.out HO.out) hkn
  rw[e1]
  obtain ⟨s,hs⟩:∃ s,(q k).s=s:=⟨_,rfl⟩
  rw[hs] at c4
  by_cases h4:(q k).k=4
  ·by_cases h5:s=t
   ·subst h5
    clear hs
    go_wp2_with fail
    go_ret
    exact ⟨rfl,HO.out.alloc HO.out.size _⟩
   ·have hne:k≠i0:=fun e=>h5 (by rw[<-hs,e];exact H4.out.2)
    clear hs
    go_wp2_with fail
    ·go_ret
     exact ⟨rfl,HO.out.alloc HO.out.size _⟩
    ·go_roundw
     case rel=>exact ⟨k+1,by omega,by go_num,HO.out.alloc HO.out.size _⟩
     case measure=>simp[intOf];omega
  ·have hne:k≠i0:=fun e=>h4 (by rw[e];exact H4.out.1)
   obtain ⟨z,hz⟩:∃ z,(q k).k=z:=⟨_,rfl⟩
   rw[hz] at c0 h4
   have hbe:(z==4)=false:=by simpa using h4
   clear hs hz
   go_wp2_with fail
   go_roundw
   case rel=>exact ⟨k+1,by omega,by go_num,HO.out.alloc HO.out.size _⟩
   case measure=>simp[intOf];omega
def wtB:Nat->List UInt8
 |0=>[49]
 |t+1=>wtB t++[32,49]
theorem zs0:∀ t,(wtB t).length=2*t+1
 |0=>rfl
 |t+1=>by
  have:=zs0 t
  show (wtB t++[32,49]).length=_
  simp[this]
  omega
theorem y31 (t:Nat):bA (wtB t)++⟨#[32,49]⟩=bA (wtB (t+1)):=yn7 (wtB t) [32,49]
theorem zt8 (x:List UInt8):∀ m,Lib.joinTail [32] (List.replicate (m+1) x)=Lib.joinTail [32] (List.replicate m x)++([32]++x):=fun m=>by
 have h:=Lib.joinTail_take_succ [32] (List.replicate (m+1) x) m x (by simp)
 simpa[List.take_replicate] using h
theorem zy3 (m:Nat):q43 txN (q42 (m+1))=bA (wtB m):=by
 have e:((q42 (m+1)).map txN).map (·.data.toList)=List.replicate (m+1) [49]:=by
  rw[q42,List.map_replicate,List.map_replicate]
  congr 1
 unfold q43
 rw[e]
 show bA (Lib.join (List.replicate (m+1) [49]) [32])=_
 congr 1
 show Lib.join ([49] :: List.replicate m [49]) [32]=_
 rw[Lib.join_cons]
 induction m with
 |zero=>rfl
 |succ m ih=>
  rw[zt8,<-List.append_assoc,ih (by
   rw[q42,List.map_replicate,List.map_replicate]
   congr 1)]
  rfl
end Go.Proofs.YtaimofjekgnieaaGreatDoor
