import Derived.Test.YtihnikeikhjndaaGreatDoorKnA
import Derived.Test.YtihnikeikhjndaaGreatDoorSpS
import Derived.LoopIn
import Derived.LoopNIn
import Derived.OwnWalkIn
import Derived.RangeFuncBound
import Derived.RangeFuncCalls
import Derived.RangeFuncNested
import Derived.Shelf.Abstract
import Derived.TacticsInMore
set_option maxRecDepth 100000
set_option maxHeartbeats 16000000
namespace Go.Proofs.YtihnikeikhjndaaGreatDoor
section
open Go.RowKit Go.Shelf
attribute [local go_sem] aN
attribute [local go_sem] Oper.semAt_some
theorem zf3(F:Fence)(n:Nat)(hF:F.fn 127)(hro:F.round=none)(a:Option Addr)(m cap:Nat)(w:World):CallsIn F n Tryz.prog 127 #[.slice a m cap] w fun e w'=>e=.returned (.func (.func 162) #[] #[.pointer (some ⟨w.heap.size,0,none⟩)])/\w'=w.alloc (.cells #[.slice a m cap] 85):=by
 refine callsIn_of_wp Tryz.func127 rfl hF ?_ hro;simp only[Tryz.ntmps127,List.size_toArray,List.length_cons,List.length_nil,Nat.reduceAdd,Nat.reduceSub,Array.replicate_succ,Array.replicate_zero,List.push_toArray,List.append_toArray,List.nil_append,List.cons_append];gi_wp2;go_ret;exact⟨rfl,rfl⟩
theorem za3(F:Fence)(m:Nat)(hF:F.fn 162)(hro:F.round=none)(hm:1<=m)(l P1 B:Nat)(a:Option Addr)(n cap:Nat)(nd:Nat->ND)(nas:Nat->NA)(hn:n<=3000)(J Jx:List (Fin n)->World->Prop)(w W:World)(hW:ah w W)(hY:∀(pre:List (Fin n)) (x:Fin n) (W1:World),J pre W1->pre.length<n->YieldAt F (m-1) Tryz.prog l #[.int .i64 (x.val:Int),eG (nd x.val) (nas x.val)] W1 fun e W'=>
   (e=.returned (.bool true)/\J (pre++[x]) W'/\KN w.heap.size B W1 W')\/(e=.returned (.bool false)/\Jx (pre++[x]) W'))
  (hP1:P1<w.heap.size) (IV:P1≠B) (hbB:∀b off,0<n->a=some ⟨b,off,none⟩->b≠B)
  (c1:w.cell? ⟨P1,0,none⟩=some (.slice a n cap)) (hT:aP 8 0 w a n fun i=>dJ (nd i) (nas i)) (h0:J [] W) :
  CallsIn F m Tryz.prog 162 #[.func (.yield l) #[] #[],.pointer (some ⟨P1,0,none⟩)] W fun e W'=>(∃v,e=.returned v)/\
   ((∃ys,ys.map Fin.val=jD n n/\J ys W')\/(∃pre,True/\Jx pre W')):=by
 have HT:Hid (aP 8 0 w a n fun i=>dJ (nd i) (nas i)):=hT;have d1:=(hW.cell (p:=⟨P1,0,none⟩) hP1).trans c1;have HY:Hid (∀(pre:List (Fin n)) (x:Fin n) (W1:World),J pre W1->pre.length<n->YieldAt F (m-1) Tryz.prog l #[.int .i64 (x.val:Int),eG (nd x.val) (nas x.val)] W1 fun e W'=>
   (e=.returned (.bool true)/\J (pre++[x]) W'/\KN w.heap.size B W1 W')\/(e=.returned (.bool false)/\Jx (pre++[x]) W')):=hY
 clear hT hY;refine callsIn_of_wp Tryz.func162 rfl hF ?_ hro;simp only[Tryz.ntmps162,List.size_toArray,List.length_cons,List.length_nil,Nat.reduceAdd,Nat.reduceSub,Array.replicate_succ,Array.replicate_zero,List.push_toArray,List.append_toArray,List.nil_append,List.cons_append];gi_wp2
 gi_loopw [3] (fun i wr=>∃(k:Nat) (pre:List (Fin n)),k<=n/\i=.int .i64 ((n:Int)-1 - k)/\Hid (pre.map Fin.val=jD n k)/\J pre wr/\KN w.heap.size B w wr)
  (fun i _=>(intOf i+1).toNat)
 case atStart=>exact⟨0,[],Nat.zero_le _,by go_num,rfl,h0,KN.of hW⟩
 case round=>
  obtain⟨k,pre,hk,rfl,HP,hJs,hnx⟩:=hrel;have JI:Hid (J pre wr):=hJs;clear hJs;by_cases hkn:k<n
  ·obtain⟨x,hx⟩:∃x:Nat,(n:Int)-1 - k=x:=⟨n-1 - k,by omega⟩;have hxe:x=n-1 - k:=by omega
   have hxn:x<n:=by omega
   rw[hx];obtain⟨b,off,rfl,_,hb,hc⟩:=HT.out (by omega);have hbB:=hbB b off (by omega) rfl;have e1:=(hnx.cell (p:=⟨P1,0,none⟩) hP1 IV).trans c1;have hc':∀j,j<8->wr.cell? ⟨b,off+x*8+j,none⟩=(dJ (nd x) (nas x))[j]?:=fun j hj=>(hnx.cell (p:=⟨b,off+x*8+j,none⟩) hb hbB).trans (hc x hxn j hj);have g0:=hc' 0 (by omega);have g1:=hc' 1 (by omega);have g2:=hc' 2 (by omega);have g3:=hc' 3 (by omega);have g4:=hc' 4 (by omega);have g5:=hc' 5 (by omega);have g6:=hc' 6 (by omega);have g7:=hc' 7 (by omega);simp only[List.getElem?_toArray,List.getElem?_cons_zero,List.getElem?_cons_succ,Nat.add_zero] at g0 g1 g2 g3 g4 g5 g6 g7;clear hc' c1 d1 hc;have hpl:pre.length=k:=by rw[<-List.length_map (f:=Fin.val),HP.out,He]
   obtain⟨fn,tmps,assign,body,hy,hR⟩:=HY.out _ ⟨x,hxn⟩ _ JI.out (by omega);clear hpl;have HX:Hid ((pre++[(⟨x,hxn⟩:Fin n)]).map Fin.val=jD n (k+1)):=by show _=_;rw[List.map_append,HP.out,Pn,<-hxe];rfl
   clear hxe;gi_wp2;refine hR.mono ?_;rintro e W3 (⟨rfl,hJ3,hk3⟩|⟨rfl,hJx3⟩)
   ·gi_wp2;go_roundw
    case rel=>exact⟨k+1,_,by omega,by have:=hx;go_num,HX,hJ3,hnx.trans hk3⟩
    case measure=>simp[intOf]
   ·gi_wp2;refine bodyPost_ret (results_none rfl _ _ _) rfl ?_;exact⟨⟨_,rfl⟩,.inr ⟨_,trivial,hJx3⟩⟩
  ·obtain rfl:k=n:=by omega
   gi_wp2;go_end0;exact⟨⟨_,rfl⟩,.inl ⟨_,HP,JI⟩⟩
theorem qv9(F:Fence)(m:Nat)(hF:F.fn 162)(hro:F.round=none)(hm:1<=m)(P1 B:Nat)(a:Option Addr)(n cap:Nat)(nd:Nat->ND)(nas:Nat->NA)(hn:n<=3000)(w:World)(hP1:P1<w.heap.size)(IV:P1≠B)(hbB:∀b off,0<n->a=some ⟨b,off,none⟩->b≠B)(c1:w.cell? ⟨P1,0,none⟩=some (.slice a n cap))(hT:aP 8 0 w a n fun i=>dJ (nd i) (nas i)):SeqStopsK F m Tryz.prog 162 #[.pointer (some ⟨P1,0,none⟩)] (fun x:Fin n=>#[.int .i64 (x.val:Int),eG (nd x.val) (nas x.val)]) (KN w.heap.size B) (fun ys=>ys.map Fin.val=jD n n) (fun _=>True) n w:=fun l J Jx W hW _ _ hY h0=>
 za3 F m hF hro hm l P1 B a n cap nd nas hn J Jx w W hW hY hP1 IV hbB c1 hT h0
end
end Go.Proofs.YtihnikeikhjndaaGreatDoor
