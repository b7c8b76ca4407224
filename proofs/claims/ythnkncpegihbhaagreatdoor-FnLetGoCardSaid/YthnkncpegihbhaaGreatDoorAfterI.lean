import Derived.Test.YthnkncpegihbhaaGreatDoorFl
import Derived.Test.YthnkncpegihbhaaGreatDoorTabH
import Derived.LoopIn
import Derived.LoopNIn
import Derived.OwnWalkIn
import Derived.RangeFuncBound
import Derived.RangeFuncCalls
import Derived.RangeFuncNested
import Derived.Shelf.Abstract
import Derived.TacticsInMore
set_option maxRecDepth 100000
set_option maxHeartbeats 16000000
namespace Go.Proofs.YthnkncpegihbhaaGreatDoor
section
open Go.RowKit Go.Shelf
attribute [local go_sem] iD
attribute [local go_sem] Oper.semAt_some
theorem yp3(F:Fence)(n:Nat)(hF:F.fn 343)(hro:F.round=none)(p:Option Addr)(T:Int)(w:World):CallsIn F n Tryz.prog 343 #[.pointer p,.int .i64 T] w fun e w'=>e=.returned (.func (.func 371) #[] #[.pointer (some ⟨w.heap.size,0,none⟩),.pointer (some ⟨w.heap.size+1,0,none⟩)])/\w'=(w.alloc (.cells #[.pointer p] 276)).alloc (.cells #[.int .i64 T] 3):=by
 refine dX Tryz.func343 rfl hF ?_ hro;simp only[Tryz.ntmps343,List.size_toArray,List.length_cons,List.length_nil,Nat.reduceAdd,Nat.reduceSub,Array.replicate_succ,Array.replicate_zero,List.push_toArray,List.append_toArray,List.nil_append,List.cons_append];gi_wp2;go_ret;exact⟨rfl,rfl⟩
def came(q:Nat->PD)(T:Int):Nat->List PD
 |0=>[]
 |k+1=>if T<(q k).turn then came q T k++[q k] else came q T k
theorem Zb(q:Nat->PD)(T:Int):∀k,(came q T k).length<=k
 |0=>by simp[came]
 |k+1=>by
  have:=Zb q T k;unfold came;split
  ·simp;omega
  ·omega
theorem Zc{q:Nat->PD}{T:Int}{k:Nat}(h:T<(q k).turn):came q T (k+1)=came q T k++[q k]:=by rw[came,aO h]
theorem ye7{q:Nat->PD}{T:Int}{k:Nat}(h:¬T<(q k).turn):came q T (k+1)=came q T k:=by rw[came,au h]
theorem yf3(F:Fence)(m:Nat)(hF:F.fn 371)(hro:F.round=none)(hm:1<=m)(l P1 P2 X:Nat)(a:Option Addr)(n cap:Nat)(q:Nat->PD)(T:Int)(hn:n<=1048576)(J Jx:List PD->World->Prop)(w W:World)(hW:gZ w W)(hJ:AbidesFrom W.heap.size J)(hY:∀pre x W1,J pre W1->pre.length<n->YieldAt F (m-1) Tryz.prog l #[uS x] W1 fun e W'=>
   (e=.returned (.bool true)/\J (pre++[x]) W'/\Below w.heap.size W1 W')\/(e=.returned (.bool false)/\Jx (pre++[x]) W'))
  (hP1:P1<w.heap.size) (hP2:P2<w.heap.size) (hX:X<w.heap.size)
  (c1:w.cell? ⟨P1,0,none⟩=some (.pointer (some ⟨X,0,none⟩))) (c2:w.cell? ⟨P2,0,none⟩=some (.int .i64 T)) (cx:w.cell? ⟨X,0,none⟩=some (.slice a n cap)) (hT:Tab w a n q) (h0:J [] W) :
  CallsIn F m Tryz.prog 371 #[.func (.yield l) #[] #[],.pointer (some ⟨P1,0,none⟩),.pointer (some ⟨P2,0,none⟩)] W fun e W'=>(∃v,e=.returned v)/\
   ((∃ys,ys=came q T n/\J ys W')\/(∃pre,(∃k,k<n/\T<(q k).turn/\pre=came q T k++[q k])/\Jx pre W')):=by
 have HT:Hid (Tab w a n q):=hT;have d1:=(hW.cell (p:=⟨P1,0,none⟩) hP1).trans c1;have dx:=(hW.cell (p:=⟨X,0,none⟩) hX).trans cx;have HY:Hid (∀pre x W1,J pre W1->pre.length<n->YieldAt F (m-1) Tryz.prog l #[uS x] W1 fun e W'=>
   (e=.returned (.bool true)/\J (pre++[x]) W'/\Below w.heap.size W1 W')\/(e=.returned (.bool false)/\Jx (pre++[x]) W')):=hY
 have HJ:Hid (AbidesFrom W.heap.size J):=hJ;refine dX Tryz.func371 rfl hF ?_ hro;simp only[Tryz.ntmps371,List.size_toArray,List.length_cons,List.length_nil,Nat.reduceAdd,Nat.reduceSub,Array.replicate_succ,Array.replicate_zero,List.push_toArray,List.append_toArray,List.nil_append,List.cons_append];gi_wp2
 gi_loopw [11] (fun i wr=>∃k:Nat,k<=n/\i=.int .i64 k/\J (came q T k) wr/\gZ w wr)
  (fun i _=>n-(intOf i).toNat)
 case atStart=>exact⟨0,aF _,rfl,h0,hW⟩
 case round=>
  obtain⟨k,hk,rfl,hJs,hnx⟩:=hrel;have Qu:Hid (J (came q T k) wr):=hJs;by_cases fE:k<n
  ·obtain⟨b,off,rfl,hb,hc⟩:=HT.out (by omega);have e2:=(hnx.cell (p:=⟨P2,0,none⟩) hP2).trans c2;have z2:P2<wr.heap.size:=aH hP2 hnx.size;have hc':∀j,j<11->wr.cell? ⟨b,off+k*11+j,none⟩=(uj (q k))[j]?:=fun j hj=>(hnx.cell (p:=⟨b,off+k*11+j,none⟩) hb).trans (hc k fE j hj);have g0:=hc' 0 (by omega);have g1:=hc' 1 (by omega);have g2:=hc' 2 (by omega);have g3:=hc' 3 (by omega);have g4:=hc' 4 (by omega);have g5:=hc' 5 (by omega);have g6:=hc' 6 (by omega);have g7:=hc' 7 (by omega);have g8:=hc' 8 (by omega);have g9:=hc' 9 (by omega);have g10:=hc' 10 (by omega);simp only[List.getElem?_toArray,List.getElem?_cons_zero,List.getElem?_cons_succ,Nat.add_zero] at g0 g1 g2 g3 g4 g5 g6 g7 g8 g9 g10;have hJ2:Hid (J (came q T k) (wr.alloc (.cells (uj (q k)) 278))):=HJ.out _ _ _ none Qu.out (World.grownBy_alloc wr _ none) (fun r e=>by cases e);by_cases ht:T<(q k).turn
   ·obtain⟨fn,tmps,assign,body,hy,hR⟩:=HY.out _ (q k) _ hJ2.out (Nat.lt_of_le_of_lt (Zb q T k) fE);have Ht:Hid (T<(q k).turn):=ht;gi_wp2;refine hR.mono ?_;rintro e W3 (⟨rfl,hJ3,hk3⟩|⟨rfl,hJx3⟩)
    ·gi_wp2;go_roundw
     case rel=>exact⟨k+1,by omega,by go_num,by rw[Zc Ht.out];exact hJ3,(hnx.alloc hnx.size _).trans hk3⟩
     case measure=>simp[intOf];omega
    ·gi_wp2;refine aG (results_none rfl _ _ _) rfl ?_;exact⟨⟨_,rfl⟩,.inr ⟨_,⟨k,fE,Ht,rfl⟩,hJx3⟩⟩
   ·have Ht:Hid (¬T<(q k).turn):=ht;gi_wp2;refine⟨fun _ h=>(by cases h),?_⟩;gi_wp2;go_roundw
    case rel=>exact⟨k+1,by omega,by go_num,by rw[ye7 (Int.not_lt.2 Ht.out)];exact hJ2.out,hnx.alloc hnx.size _⟩
    case measure=>simp[intOf];omega
  ·obtain rfl:k=n:=by omega
   gi_wp2;go_end0;exact⟨⟨_,rfl⟩,.inl ⟨_,rfl,Qu⟩⟩
theorem zr1(F:Fence)(m:Nat)(hF:F.fn 371)(hro:F.round=none)(hm:1<=m)(P1 P2 X:Nat)(a:Option Addr)(n cap:Nat)(q:Nat->PD)(T:Int)(hn:n<=1048576)(w:World)(hP1:P1<w.heap.size)(hP2:P2<w.heap.size)(hX:X<w.heap.size)(c1:w.cell? ⟨P1,0,none⟩=some (.pointer (some ⟨X,0,none⟩)))(c2:w.cell? ⟨P2,0,none⟩=some (.int .i64 T))(cx:w.cell? ⟨X,0,none⟩=some (.slice a n cap))(hT:Tab w a n q):SeqStopsK F m Tryz.prog 371 #[.pointer (some ⟨P1,0,none⟩),.pointer (some ⟨P2,0,none⟩)] (fun x:PD=>#[uS x]) (Below w.heap.size) (fun ys=>ys=came q T n) (fun pre=>∃k,k<n/\T<(q k).turn/\pre=came q T k++[q k]) n w:=fun l J Jx W hW hJ _ hY h0=>
 yf3 F m hF hro hm l P1 P2 X a n cap q T hn J Jx w W hW hJ hY hP1 hP2 hX c1 c2 cx hT h0
abbrev fC(f:Bool)(p:PD):Array Value:=#[.bool f,.int .i64 p.key.k,.int .i64 p.key.n,.float .f64 p.key.f,.string p.key.s,.int .i64 p.key.r,.int .i64 p.val.k,.int .i64 p.val.n,.float .f64 p.val.f,.string p.val.s,.int .i64 p.val.r,.int .i64 p.turn]
abbrev LM(f:Bool)(p:PD):Value:=.agg (fC f p)
def QU(q:Nat->PD)(T:Int)(n:Nat)(f:Bool)(p:PD):Prop:=
 (f=true/\∃k,k<n/\p=q k/\T<(q k).turn/\∀j,j<k->¬T<(q j).turn)\/(f=false/\p=pz/\∀k,k<n->¬T<(q k).turn)
theorem Uz{q:Nat->PD}{T:Int}:∀{k:Nat},came q T k=[]->∀j,j<k->¬T<(q j).turn
 |0,_,j,hj=>by omega
 |k+1,h,j,hj=>by
  by_cases c:T<(q k).turn
  ·rw[Zc c] at h;simp at h
  ·rw[ye7 c] at h;by_cases e:j=k
   ·subst e;exact c
   ·exact Uz h j (by omega)
theorem uY{W W':World}{b:Nat}{A:Array Value}(hA:0<A.size)(h:∀o,W.cell? ⟨b,o,none⟩=A[o]?){row:Option Nat}(hg:W.grownBy W' row)(gJ:∀r,row=some r->∃o:Obj,W.heap[r]?=some o/\o.isCells=false):∀o,W'.cell? ⟨b,o,none⟩=A[o]?:=fun o=>by
 have h0:W.cell? ⟨b,0,none⟩=some (A[0]'hA):=by rw[h 0,cO hA]
 obtain⟨ob,ho,hc⟩:=cells_of_cell h0;have:=ak (w:=W) (w':=W') (a:=⟨b,o,none⟩) (grownBy_keeps_cells hg gJ ho hc);rw[this];exact h o
theorem Bv{w:World}{B:Nat}{A:Array Value}(h:∀o,w.cell? ⟨B,o,none⟩=A[o]?)(hA:A.size=12)(v0 v1 v2 v3 v4 v5 v6 v7 v8 v9 v10 v11:Value):∀o,((((((((((((w.setCell ⟨B,0,none⟩ v0).setCell ⟨B,1,none⟩ v1).setCell ⟨B,2,none⟩ v2).setCell ⟨B,3,none⟩ v3).setCell ⟨B,4,none⟩ v4).setCell ⟨B,5,none⟩ v5).setCell ⟨B,6,none⟩ v6).setCell ⟨B,7,none⟩ v7).setCell ⟨B,8,none⟩ v8).setCell ⟨B,9,none⟩ v9).setCell ⟨B,10,none⟩ v10).setCell ⟨B,11,none⟩ v11).cell? ⟨B,o,none⟩=(#[v0,v1,v2,v3,v4,v5,v6,v7,v8,v9,v10,v11]:Array Value)[o]?:=by
 have hs:∀i,i<12->(w.cell? ⟨B,i,none⟩).isSome=true:=fun i hi=>by rw[h i,cO (by omega)];rfl
 have h0:=hs 0 (by omega);have h1:=hs 1 (by omega);have h2:=hs 2 (by omega);have h3:=hs 3 (by omega);have h4:=hs 4 (by omega);have h5:=hs 5 (by omega);have h6:=hs 6 (by omega);have h7:=hs 7 (by omega);have h8:=hs 8 (by omega);have h9:=hs 9 (by omega);have h10:=hs 10 (by omega);have h11:=hs 11 (by omega);intro o;rcases o with _|_|_|_|_|_|_|_|_|_|_|_|o
 ·simp[go_sem,h0]
 ·simp[go_sem,h1]
 ·simp[go_sem,h2]
 ·simp[go_sem,h3]
 ·simp[go_sem,h4]
 ·simp[go_sem,h5]
 ·simp[go_sem,h6]
 ·simp[go_sem,h7]
 ·simp[go_sem,h8]
 ·simp[go_sem,h9]
 ·simp[go_sem,h10]
 ·simp[go_sem,h11]
 ·have:=h (o+12);rw[dJ (by omega)] at this;simp[go_sem,this]
theorem yZ(w:World)(B:Nat)(v0 v1 v2 v3 v4 v5 v6 v7 v8 v9 v10 v11:Value):KeepsOthers w ((((((((((((w.setCell ⟨B,0,none⟩ v0).setCell ⟨B,1,none⟩ v1).setCell ⟨B,2,none⟩ v2).setCell ⟨B,3,none⟩ v3).setCell ⟨B,4,none⟩ v4).setCell ⟨B,5,none⟩ v5).setCell ⟨B,6,none⟩ v6).setCell ⟨B,7,none⟩ v7).setCell ⟨B,8,none⟩ v8).setCell ⟨B,9,none⟩ v9).setCell ⟨B,10,none⟩ v10).setCell ⟨B,11,none⟩ v11):=
 ((((((((((((KeepsOthers.setCell _ _ _).trans (KeepsOthers.setCell _ _ _)).trans (KeepsOthers.setCell _ _ _)).trans (KeepsOthers.setCell _ _ _)).trans (KeepsOthers.setCell _ _ _)).trans (KeepsOthers.setCell _ _ _)).trans (KeepsOthers.setCell _ _ _)).trans (KeepsOthers.setCell _ _ _)).trans (KeepsOthers.setCell _ _ _)).trans (KeepsOthers.setCell _ _ _)).trans (KeepsOthers.setCell _ _ _)).trans (KeepsOthers.setCell _ _ _))
theorem Nq{N B:Nat}{a w:World}(h:Below N a w)(hp:N<=B)(v0 v1 v2 v3 v4 v5 v6 v7 v8 v9 v10 v11:Value):Below N a ((((((((((((w.setCell ⟨B,0,none⟩ v0).setCell ⟨B,1,none⟩ v1).setCell ⟨B,2,none⟩ v2).setCell ⟨B,3,none⟩ v3).setCell ⟨B,4,none⟩ v4).setCell ⟨B,5,none⟩ v5).setCell ⟨B,6,none⟩ v6).setCell ⟨B,7,none⟩ v7).setCell ⟨B,8,none⟩ v8).setCell ⟨B,9,none⟩ v9).setCell ⟨B,10,none⟩ v10).setCell ⟨B,11,none⟩ v11):=
 (st1 (st1 (st1 (st1 (st1 (st1 (st1 (st1 (st1 (st1 (st1 (st1 h hp v0) hp v1) hp v2) hp v3) hp v4) hp v5) hp v6) hp v7) hp v8) hp v9) hp v10) hp v11)
theorem zb6(F:Fence)(m:Nat)(h42:F.fn 307)(h68:F.fn 343)(h77:F.fn 371)(hro:F.round=none)(hm:3<=m)(X:Nat)(a:Option Addr)(n cap B:Nat)(t:Int)(q:Nat->PD)(T:Int)(w:World)(hn:n<=1048576)(hX:qQ w X a n cap B t q):CallsIn F m Tryz.prog 307 #[.pointer (some ⟨X,0,none⟩),.int .i64 T] w fun e W'=>(∃f p,e=.returned (LM f p)/\QU q T n f p)/\gZ w W':=by
 have h1:1<=m:=by omega
 refine callsIn_of_wp_marks Tryz.func307 rfl h42 ?_ hro;simp only[Tryz.ntmps307,List.size_toArray,List.length_cons,List.length_nil,Nat.reduceAdd,Nat.reduceSub,Array.replicate_succ,Array.replicate_zero,List.push_toArray,List.append_toArray,List.nil_append,List.cons_append];gi_wp2_with (gi_at_call 343;refine(yp3 F (m-1) h68 hro _ _ _).mono ?_;rintro e w' ⟨rfl,rfl⟩);have b0:gZ w (((w.alloc (.cells #[.bool false,.int .i64 0,.int .i64 0,.float .f64 0,.string ⟨#[]⟩,.int .i64 0,.int .i64 0,.int .i64 0,.float .f64 0,.string ⟨#[]⟩,.int .i64 0,.int .i64 0] 386)).alloc (.cells #[.pointer (some ⟨X,0,none⟩)] 276)).alloc (.cells #[.int .i64 T] 3)):=xW _ _ _ _;have xb:=((hX.alloc (.cells #[.bool false,.int .i64 0,.int .i64 0,.float .f64 0,.string ⟨#[]⟩,.int .i64 0,.int .i64 0,.int .i64 0,.float .f64 0,.string ⟨#[]⟩,.int .i64 0,.int .i64 0] 386)).alloc (.cells #[.pointer (some ⟨X,0,none⟩)] 276)).alloc (.cells #[.int .i64 T] 3);have s0:∀o,(((w.alloc (.cells #[.bool false,.int .i64 0,.int .i64 0,.float .f64 0,.string ⟨#[]⟩,.int .i64 0,.int .i64 0,.int .i64 0,.float .f64 0,.string ⟨#[]⟩,.int .i64 0,.int .i64 0] 386)).alloc (.cells #[.pointer (some ⟨X,0,none⟩)] 276)).alloc (.cells #[.int .i64 T] 3)).cell? ⟨w.heap.size,o,none⟩=(fC false pz)[o]?:=fun o=>by
  rw[dR _ _ _ (by simp;omega),dR _ _ _ (by simp)];exact dh w _ _ o
 have f0:∀o,(((w.alloc (.cells #[.bool false,.int .i64 0,.int .i64 0,.float .f64 0,.string ⟨#[]⟩,.int .i64 0,.int .i64 0,.int .i64 0,.float .f64 0,.string ⟨#[]⟩,.int .i64 0,.int .i64 0] 386)).alloc (.cells #[.pointer (some ⟨X,0,none⟩)] 276)).alloc (.cells #[.int .i64 T] 3)).frozen? ⟨w.heap.size,o,none⟩=false:=fun o=>by simp[go_sem]
 have k1:(((w.alloc (.cells #[.bool false,.int .i64 0,.int .i64 0,.float .f64 0,.string ⟨#[]⟩,.int .i64 0,.int .i64 0,.int .i64 0,.float .f64 0,.string ⟨#[]⟩,.int .i64 0,.int .i64 0] 386)).alloc (.cells #[.pointer (some ⟨X,0,none⟩)] 276)).alloc (.cells #[.int .i64 T] 3)).cell? ⟨w.heap.size+1,0,none⟩=some (.pointer (some ⟨X,0,none⟩)):=by simp[go_sem]
 have k2:(((w.alloc (.cells #[.bool false,.int .i64 0,.int .i64 0,.float .f64 0,.string ⟨#[]⟩,.int .i64 0,.int .i64 0,.int .i64 0,.float .f64 0,.string ⟨#[]⟩,.int .i64 0,.int .i64 0] 386)).alloc (.cells #[.pointer (some ⟨X,0,none⟩)] 276)).alloc (.cells #[.int .i64 T] 3)).cell? ⟨w.heap.size+1 + 1,0,none⟩=some (.int .i64 T):=by simp[go_sem]
 have hsz:(((w.alloc (.cells #[.bool false,.int .i64 0,.int .i64 0,.float .f64 0,.string ⟨#[]⟩,.int .i64 0,.int .i64 0,.int .i64 0,.float .f64 0,.string ⟨#[]⟩,.int .i64 0,.int .i64 0] 386)).alloc (.cells #[.pointer (some ⟨X,0,none⟩)] 276)).alloc (.cells #[.int .i64 T] 3)).heap.size=w.heap.size+3:=by simp
 obtain⟨W0,hW0⟩:∃W0,(((w.alloc (.cells #[.bool false,.int .i64 0,.int .i64 0,.float .f64 0,.string ⟨#[]⟩,.int .i64 0,.int .i64 0,.int .i64 0,.float .f64 0,.string ⟨#[]⟩,.int .i64 0,.int .i64 0] 386)).alloc (.cells #[.pointer (some ⟨X,0,none⟩)] 276)).alloc (.cells #[.int .i64 T] 3))=W0:=⟨_,rfl⟩;rw[hW0] at b0 xb s0 f0 k1 k2 hsz ⊢;refine wpIn_rangeFunc_ownH hro h1 (gf:=371) (lb:=#[.pointer (some ⟨w.heap.size+1,0,none⟩),.pointer (some ⟨w.heap.size+1 + 1,0,none⟩)]) rfl h77 (enters_of Tryz.func371 (by kernel_rfl) rfl)
  (zr1 F (m-1) h77 hro (by omega) (w.heap.size+1) (w.heap.size+1 + 1) X a n cap q T hn W0 (by omega) (by omega) xb.lt k1 k2 xb.c0 xb.tab) belowK_t (belowK_b (ah _)) (ay _ _) (fun _=>rfl)
  (fun pre W=>pre=[]/\gZ W0 W)
  (fun c pre W=>(c=.ret/\∃x,pre=[x]/\∀o,W.cell? ⟨w.heap.size,o,none⟩=(fC true x)[o]?)/\gZ w W)
  (OwnFrom.and (ownFrom_pure _ _) (ownFrom_below (ah _) (ah _)))
  (fun c=>OwnFrom.and (Own.from (fun s A B row hs hg hr=>by obtain⟨hc,x,e,gI⟩:=hs;exact⟨hc,x,e,uY (by show(0:Nat)<12;omega) gI hg hr⟩) _) (ownFrom_below (ah _) (by omega)))
  ⟨rfl,ay _ _⟩
  (fun x a' W=>∃Bx,W0.heap.size<=Bx/\(∀o,W.cell? ⟨Bx,o,none⟩=(uj x)[o]?)/\a'={tmps:=#[.pointer (some ⟨X,0,none⟩),.int .i64 T,undef,undef,.pointer (some ⟨w.heap.size,0,none⟩),.pointer (some ⟨Bx,0,none⟩),.pointer (some ⟨X,0,none⟩),.int .i64 T,.func (.func 371) #[] #[.pointer (some ⟨w.heap.size+1,0,none⟩),.pointer (some ⟨w.heap.size+1 + 1,0,none⟩)],uS x,undef,undef,undef],defers:=[]})
  (fun x a' _ X' Y row hs hg hr=>by obtain⟨Bx,h1,h2,h3⟩:=hs;exact⟨Bx,h1,uY (by show(0:Nat)<11;omega) h2 hg (fun r e=>(hr r e).2),h3⟩)
  ?assign ?body ?done ?stop
 case assign=>
  rintro l pre x W K ⟨hp,hB⟩ hK;gi_wp2;exact hK _ _ ((KeepsOthers.alloc _ _).from _) ((ay _ W).alloc hB.size _) ⟨hp,hB.alloc hB.size _⟩ ⟨W.heap.size,hB.size,fun o=>dh _ _ _ o,rfl⟩
 case body=>
  rintro l pre x a' W hl ⟨r,hr⟩ ⟨rfl,hB⟩ ⟨Bx,hBx,bX,rfl⟩ gK;have sW:∀o,W.cell? ⟨w.heap.size,o,none⟩=(fC false pz)[o]?:=fun o=>(hB.cell (p:=⟨w.heap.size,o,none⟩) (by simp;omega)).trans (s0 o);have fW:∀o,W.frozen? ⟨w.heap.size,o,none⟩=false:=fun o=>(hB.frozen (p:=⟨w.heap.size,o,none⟩) (by simp;omega)).trans (f0 o);have hBW:gZ w W:=b0.trans (hB.mono (by omega));have SW:Hid (∀o,W.cell? ⟨w.heap.size,o,none⟩=(fC false pz)[o]?):=sW;gi_wp2;exact⟨(yZ W w.heap.size _ _ _ _ _ _ _ _ _ _ _ _).from _,⟨rfl,x,rfl,Bv SW rfl _ _ _ _ _ _ _ _ _ _ _ _⟩,Nq hBW (ah _) _ _ _ _ _ _ _ _ _ _ _ _⟩
 case done=>
  rintro D ys W hD hS ⟨rfl,hB⟩ hK;have sW:∀o,W.cell? ⟨w.heap.size,o,none⟩=(fC false pz)[o]?:=fun o=>(hB.cell (p:=⟨w.heap.size,o,none⟩) (by simp;omega)).trans (s0 o);have fW:∀o,W.frozen? ⟨w.heap.size,o,none⟩=false:=fun o=>(hB.frozen (p:=⟨w.heap.size,o,none⟩) (by simp;omega)).trans (f0 o);have hBW:gZ w W:=b0.trans (hB.mono (by omega));have SW:Hid (∀o,W.cell? ⟨w.heap.size,o,none⟩=(fC false pz)[o]?):=sW;gi_wp2;have hK':=(yZ W w.heap.size (.bool false) (.int .i64 0) (.int .i64 0) (.float .f64 0) (.string ⟨#[]⟩) (.int .i64 0) (.int .i64 0) (.int .i64 0) (.float .f64 0) (.string ⟨#[]⟩) (.int .i64 0) (.int .i64 0)).same D _ hK rfl;refine⟨by simp,.inl ⟨_,_,rfl,run_takeDeferred hK',?_⟩⟩;have hc5:=uY (by decide) (Bv SW.out rfl (.bool false) (.int .i64 0) (.int .i64 0) (.float .f64 0) (.string ⟨#[]⟩) (.int .i64 0) (.int .i64 0) (.int .i64 0) (.float .f64 0) (.string ⟨#[]⟩) (.int .i64 0) (.int .i64 0)) (grownBy_putObj' _ D (.deferred none)) (fun r e=>by cases e;exact⟨_,hK',rfl⟩);refine⟨LM false pz,?_,⟨false,pz,rfl,.inr ⟨rfl,rfl,Uz hS.symm⟩⟩,(Nq hBW (ah _) _ _ _ _ _ _ _ _ _ _ _ _).trans (belowK_b (w:=w) (ah _) _ D _ _ (by omega) hK' rfl rfl)⟩;simp[results,Tryz.results307,go_sem,hc5,pz,vz]
 case stop=>
  rintro D c pre W hD ⟨k,hk,ht,rfl⟩ ⟨⟨rfl,x,hpre,gI⟩,hB⟩ hK;have hck:came q T k=[]/\q k=x:=by
   cases hc:came q T k with
   |nil=>rw[hc] at hpre;simp at hpre;exact⟨rfl,hpre⟩
   |cons y ys=>rw[hc] at hpre;simp at hpre
  obtain⟨hnil,rfl⟩:=hck;have HF:Hid (QU q T n true (q k)):=.inl ⟨rfl,k,hk,rfl,ht,Uz hnil⟩;gi_wp2;refine⟨by simp,.inl ⟨_,_,rfl,run_takeDeferred hK,?_⟩⟩;have hc5:=uY (by show(0:Nat)<12;omega) gI (grownBy_putObj' _ D (.deferred none)) (fun r e=>by cases e;exact⟨_,hK,rfl⟩);refine⟨LM true (q k),?_,⟨true,q k,rfl,HF.out⟩,hB.trans (belowK_b (w:=w) (ah _) _ D _ _ (by omega) hK rfl rfl)⟩;simp[results,Tryz.results307,go_sem,hc5]
theorem qs2(X:Nat)(a:Option Addr)(n cap B:Nat)(t:Int)(q:Nat->PD)(T:Int)(w:World)(hn:n<=1048576)(hX:qQ w X a n cap B t q):Calls Tryz.prog 307 #[.pointer (some ⟨X,0,none⟩),.int .i64 T] w fun e W'=>(∃f p,e=.returned (LM f p)/\QU q T n f p)/\gZ w W':=
 dP.1 (zb6 Fence.wide 3 trivial trivial trivial rfl (ah _) X a n cap B t q T w hn hX)
end
end Go.Proofs.YthnkncpegihbhaaGreatDoor
