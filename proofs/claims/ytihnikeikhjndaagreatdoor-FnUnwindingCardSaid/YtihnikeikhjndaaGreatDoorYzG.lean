import Derived.Test.YtihnikeikhjndaaGreatDoorJnA
import Derived.OrdersIn
import Derived.RangeFuncCalls
import Derived.Test.YtihnikeikhjndaaGreatDoorKnA
import Derived.LoopIn
import Derived.LoopNIn
import Derived.OwnWalkIn
import Derived.RangeFuncBound
import Derived.RangeFuncNested
import Derived.TacticsInMore
set_option maxRecDepth 100000
set_option maxHeartbeats 16000000
namespace Go.Proofs.YtihnikeikhjndaaGreatDoor
section
open Go.RowKit
def KG(ops:Array Oper):Bool:=ops.all fun o=>match o.op with
 |.defer _=>false
 |_=>true
theorem z63{ops:Array Oper}(h:KG ops=true){j:Nat}{o:Oper}(e:ops[j]?=some o):∀c,o.op≠.defer c:=fun c hc=>by
 obtain⟨hj,rfl⟩:=Array.getElem?_eq_some_iff.1 e;have:=(Array.all_eq_true.1 h) j hj;rw[hc] at this
 cases this
abbrev AA(R:Act->World->Prop):Exit->Act->World->Prop:=fun e a w=>e=.normal/\R a w
theorem ZC{R:Act->World->Prop}:¬LetsOut (AA R):=fun⟨_,_,h,_⟩=>by cases h
theorem zk3{l n:Nat}{P:Program}{ops:Array Oper}{R:Act->World->Prop}{i:Nat}{K:Act->World->Prop}{a:Act}{w:World}(hd:KG ops=true)(h:wpOp P ops (AA R) i K a w):wpOpIn (Fence.wide.inRound l) n P ops (AA R) i K a w:=by
 unfold wpOp at h;unfold wpOpIn
 cases ho:ops[i]? with
 |none=>rw[ho] at h;exact h
 |some o=>
  rw[ho] at h;simp only at h ⊢;by_cases hw:Region.wanted o (yielded ops a.tmps)=true
  ·rw[if_pos hw] at h ⊢;rcases h with h|h
   ·refine⟨fun _ _=>trivial,?_⟩;rw[Oper.semAt_eq _ _ _ (z63 hd ho)];unfold Oper.wp at h;generalize (execOp a.eval o).run P w=r at h ⊢
    cases r with
    |ok x w'=>
     cases x with
     |value v=>exact h
     |skip=>exact h
     |defer d=>exact h
     |enter f args=>exact⟨fun e=>by simp[Fence.inRound,Fence.wide] at e,CallsIn.inRound l (callsIn_wide.2 h)⟩
     |row row args=>exact⟨fun e=>by simp[Fence.inRound,Fence.wide] at e,fun c cs _=>by
       obtain⟨v,w'',hr,hs⟩:=h c cs;exact⟨v,w'',hr,stepsIn_wide.2 hs⟩⟩
     |_=>exact h.elim
    |halt x w'=>
     cases x with
     |panic v=>exact h
     |_=>exact h.elim
   ·exact absurd h.2 ZC
  ·rw[if_neg hw] at h ⊢;exact⟨fun _ _=>trivial,h⟩
theorem WU{l n:Nat}{P:Program}{ops:Array Oper}{md:Region.Mode}{R:Act->World->Prop}(hd:KG ops=true):∀(fuel:Nat) (listed:Array Bool) (a:Act) (w:World),wpAny P md ops (AA R) fuel listed a w->wpAnyIn (Fence.wide.inRound l) n P md ops (AA R) fuel listed a w
 |0,_,_,_,h=>h
 |fuel+1,_,_,_,h=>⟨h.1,fun i hi=>zk3 hd (wpOp_mono (fun a' w' h'=>WU hd fuel _ a' w' h') (h.2 i hi))⟩
theorem qo9{l n id:Nat}{P:Program}{ops:Array Oper}{R:Act->World->Prop}{S:World->Prop}{a:Act}{w:World}(hm:P.follows .mixedOrders=true)(hd:KG ops=true)(hS:S w.drew)(h:S w.drew->wpAnyH P .any ops (AA R) S ops.size (Array.replicate ops.size false) a w.drew):(Code.region id ops true).wpIn (Fence.wide.inRound l) n P (AA R) a w:=
 wpIn_region_any hm (WU hd _ _ _ _ (wpAny_of_held _ _ _ _ (h hS)))
end
section
open Go.RowKit Go.Shelf
attribute [local go_sem] aN
attribute [local go_sem] Oper.semAt_some
abbrev iK:ByteArray:=⟨#[109,97,105,110]⟩
abbrev Yd(B:Nat):Value:=.func (.func 329) #[] #[.pointer (some ⟨B,0,none⟩)]
section
attribute [local go_sem ↓] Go.wp_at_zero Go.wp_at_succ
def ni(s:ByteArray):ByteArray:=if s.toList.isEmpty=true then⟨#[102,110]⟩ else s
theorem Pg(R:Nat)(s:ByteArray)(w:World)(h0:w.cell? ⟨R,0,none⟩=some (.string s))(h1:w.cell? ⟨R,1,none⟩=some (.string ⟨#[102,110]⟩)):Calls Tryz.prog 289 #[.slice (some ⟨R,0,none⟩) 2 2] w fun e w'=>e=.returned (.string (ni s))/\w'=w:=by
 by_cases hs:s.toList.isEmpty=true
 ·have hn:ni s=⟨#[102,110]⟩:=if_pos hs;rw[hn];have h2:(⟨#[102,110]⟩:ByteArray).toList.isEmpty=false:=by kernel_rfl
  clear hn;go_in;go_wp2_with fail;refine wp_loop_rounds 2 ?_;rw[rounds_succ];go_wp2_with fail;rw[rounds_succ];go_wp2_with fail;go_ret;exact⟨rfl,rfl⟩
 ·have hn:ni s=s:=if_neg hs;rw[hn];have hb:s.toList.isEmpty=false:=by simpa using hs
  clear hn hs;go_in;go_wp2_with fail;refine wp_loop_rounds 1 ?_;rw[rounds_succ];go_wp2_with fail;go_ret;exact⟨rfl,rfl⟩
theorem zf5(a:Option Addr)(m cap:Nat)(w:World):Calls Tryz.prog 288 #[.slice a m cap] w fun e w'=>e=.returned (Yd w.heap.size)/\w'=w.alloc (.cells #[.slice a m cap] 114):=by
 have hmf:∀(fn:Fn) (first cap:Array Value) (w:World),(Instr.makeFunc fn first cap).run Tryz.prog w=.ok (.func fn first cap) w:=fun _ _ _ _=>rfl;go_in;go_wp2_with fail;go_ret;exact⟨rfl,rfl⟩
end
theorem Z8(l P1 B:Nat)(a:Option Addr)(n cap:Nat)(fr:Nat->Value)(hn:n<=3000)(J Jx:List (Fin n)->World->Prop)(w W:World)(hW:ah w W)(hY:∀(pre:List (Fin n)) (x:Fin n) (W1:World),J pre W1->pre.length<n->YieldAt Fence.wide (2-1) Tryz.prog l #[.int .i64 (x.val:Int),fr x.val] W1 fun e W'=>
   (e=.returned (.bool true)/\J (pre++[x]) W'/\KN w.heap.size B W1 W')\/(e=.returned (.bool false)/\Jx (pre++[x]) W'))
  (hP1:P1<w.heap.size) (IV:P1≠B) (hbB:∀b off,0<n->a=some ⟨b,off,none⟩->b≠B)
  (c1:w.cell? ⟨P1,0,none⟩=some (.slice a n cap)) (hT:aP 1 0 w a n fun i=>#[fr i]) (h0:J [] W) :
  CallsIn Fence.wide 2 Tryz.prog 329 #[.func (.yield l) #[] #[],.pointer (some ⟨P1,0,none⟩)] W fun e W'=>(∃v,e=.returned v)/\
   ((∃ys,ys.map Fin.val=jD n n/\J ys W')\/(∃pre,True/\Jx pre W')):=by
 have HT:Hid (aP 1 0 w a n fun i=>#[fr i]):=hT;have d1:=(hW.cell (p:=⟨P1,0,none⟩) hP1).trans c1;have HY:Hid (∀(pre:List (Fin n)) (x:Fin n) (W1:World),J pre W1->pre.length<n->YieldAt Fence.wide (2-1) Tryz.prog l #[.int .i64 (x.val:Int),fr x.val] W1 fun e W'=>
   (e=.returned (.bool true)/\J (pre++[x]) W'/\KN w.heap.size B W1 W')\/(e=.returned (.bool false)/\Jx (pre++[x]) W')):=hY
 clear hT hY;refine callsIn_of_wp Tryz.func329 rfl trivial ?_ rfl;simp only[Tryz.ntmps329,List.size_toArray,List.length_cons,List.length_nil,Nat.reduceAdd,Nat.reduceSub,Array.replicate_succ,Array.replicate_zero,List.push_toArray,List.append_toArray,List.nil_append,List.cons_append];gi_wp2
 gi_loopw [3] (fun i wr=>∃(k:Nat) (pre:List (Fin n)),k<=n/\i=.int .i64 ((n:Int)-1 - k)/\Hid (pre.map Fin.val=jD n k)/\J pre wr/\KN w.heap.size B w wr)
  (fun i _=>(intOf i+1).toNat)
 case atStart=>exact⟨0,[],Nat.zero_le _,by go_num,rfl,h0,KN.of hW⟩
 case round=>
  obtain⟨k,pre,hk,rfl,HP,hJs,hnx⟩:=hrel;have JI:Hid (J pre wr):=hJs;clear hJs;by_cases hkn:k<n
  ·obtain⟨x,hx⟩:∃x:Nat,(n:Int)-1 - k=x:=⟨n-1 - k,by omega⟩;have hxe:x=n-1 - k:=by omega
   have hxn:x<n:=by omega
   rw[hx];obtain⟨b,off,rfl,_,hb,hc⟩:=HT.out (by omega);have hbB:=hbB b off (by omega) rfl;have e1:=(hnx.cell (p:=⟨P1,0,none⟩) hP1 IV).trans c1;have g0:wr.cell? ⟨b,off+x,none⟩=some (fr x):=by
    have:=(hnx.cell (p:=⟨b,off+x*1+0,none⟩) hb hbB).trans (hc x hxn 0 (by omega));simpa using this
   clear c1 d1 hc;have hpl:pre.length=k:=by rw[<-List.length_map (f:=Fin.val),HP.out,He]
   obtain⟨fn,tmps,assign,body,hy,hR⟩:=HY.out _ ⟨x,hxn⟩ _ JI.out (by omega);clear hpl;have HX:Hid ((pre++[(⟨x,hxn⟩:Fin n)]).map Fin.val=jD n (k+1)):=by show _=_;rw[List.map_append,HP.out,Pn,<-hxe];rfl
   clear hxe;gi_wp2;refine hR.mono ?_;rintro e W3 (⟨rfl,hJ3,hk3⟩|⟨rfl,hJx3⟩)
   ·gi_wp2;go_roundw
    case rel=>exact⟨k+1,_,by omega,by have:=hx;go_num,HX,hJ3,hnx.trans hk3⟩
    case measure=>simp[intOf]
   ·gi_wp2;refine bodyPost_ret (results_none rfl _ _ _) rfl ?_;exact⟨⟨_,rfl⟩,.inr ⟨_,trivial,hJx3⟩⟩
  ·obtain rfl:k=n:=by omega
   gi_wp2;go_end0;exact⟨⟨_,rfl⟩,.inl ⟨_,HP,JI⟩⟩
end
end Go.Proofs.YtihnikeikhjndaaGreatDoor
