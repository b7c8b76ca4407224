import Derived.Test.YthnkncpegihbhaaGreatDoorOwA
import Derived.LoopIn
import Derived.LoopNIn
import Derived.OwnWalkIn
import Derived.RangeFuncBound
import Derived.RangeFuncCalls
import Derived.RangeFuncNested
import Derived.TacticsInMore
set_option maxRecDepth 100000
set_option maxHeartbeats 16000000
namespace Go.Proofs.YthnkncpegihbhaaGreatDoor
section
open Go.RowKit
def BK(l D:Nat)(r:Loop)(W:World):Prop:=W.heap[l]?=some (.loop r)/\W.heap[D]?=some (.deferred (some []))
def jW(Z:Nat->Prop)(w w':World):Prop:=∀b o,w.heap[b]?=some o->o.isCells=true->¬Z b->w'.heap[b]?=some o
theorem jW.trans{Z:Nat->Prop}{a b c:World}(h:jW Z a b)(k:jW Z b c):jW Z a c:=fun i o h1 h2 h3=>k i o (h i o h1 h2 h3) h2 h3
theorem jW.refl{Z:Nat->Prop}{a:World}:jW Z a a:=fun _ _ h1 _ _=>h1
theorem jW.put{Z:Nat->Prop}{a:World}{l:Nat}{o:Obj}(h:a.heap[l]?=some o)(hc:o.isCells=false)(o':Obj):jW Z a (a.putObj l o'):=fun i x h1 h2 _=>by
 have hne:i≠l:=fun e=>by subst e;rw[h] at h1;cases h1;rw[hc] at h2;cases h2
 exact(World.putObj_heap_other hne).trans h1
theorem y86{P:Program}{α:Type}{g:Operand}{ps:Array Tmp}{assign body:Code}{Q:Exit->Act->World->Prop}{a:Act}{w:World}{gf:Nat}{lb:Array Value}(hg:a.eval g=.func (.func gf) #[] lb)(eg:∀args w,(callFunc gf args).run P w=.ok (.enter gf args) w)(encs:α->Array Value)(hps:∀x,(encs x).size=ps.size)(N:Nat)(Pre:Nat->α->World->Prop)(Z:α->Nat->Prop)(I:Nat->World->Prop)(hseq:∀(l D:Nat) (r:Loop) (W:World),gZ w W->BK l D r W->I 0 W->(∀k x W1,k<N->BK l D r W1->Pre k x W1->YieldAt Fence.wide 1 P l (encs x) W1 fun e W'=>e=.returned (.bool true)/\BK l D r W'/\I (k+1) W'/\jW (Z x) W1 W')->CallsIn Fence.wide 2 P gf (#[.func (.yield l) #[] #[]]++lb) W fun e W'=>(∃v,e=.returned v)/\BK l D r W'/\I N W')(hI:OwnFrom w.heap.size I)(h0:I 0 w)(yj:∀(l k:Nat) (x:α) (W:World),k<N->w.heap.size<=l->Pre k x W->assign.wpIn (Fence.wide.inRound l) 1 P (Exit.then (fun a' W'=>KeepsFrom w.heap.size W W'/\jW (Z x) W W'/\∀W2,W'.grownBy W2 (some l)->(∃o:Obj,W'.heap[l]?=some o/\o.isCells=false)->body.wpIn (Fence.wide.inRound l) 1 P (fun e _ W3=>e=.normal/\KeepsFrom w.heap.size W2 W3/\I (k+1) W3/\jW (Z x) W2 W3) a' W2) (fun _ _ _=>False)) {tmps:=(ps.zip (encs x)).foldl (fun t (p,v)=>t.setIfInBounds p v) a.tmps,defers:=[]} W)(hdone:∀(D:Nat) (W:World),w.heap.size<=D->I N W->W.heap[D]?=some (.deferred (some []))->Q .normal {a with defers:={target:=.collected D,args:=#[]} :: a.defers} W):(Code.rangeFunc g ps assign body).wpIn Fence.wide 3 P Q a w:=by
 refine wpIn_rangeFunc fun fn hfn=>?_;obtain⟨rec,hrec⟩:∃rec:LoopState->Loop,rec=fun st=>{state:=st,pending:=none,fn,tmps:=a.tmps,params:=ps,assign,body,defers:=w.heap.size}:=⟨_,rfl⟩;obtain⟨W1,hW1⟩:∃W1,(w.alloc (.deferred (some []))).alloc (.loop (rec .ready))=W1:=⟨_,rfl⟩;have hL1:W1.heap[w.heap.size+1]?=some (.loop (rec .ready)):=by
  have:=World.alloc_heap_new (w.alloc (.deferred (some []))) (.loop (rec .ready));rw[aN,hW1] at this;exact this
 have hK1:W1.heap[w.heap.size]?=some (.deferred (some [])):=by
  rw[<-hW1];exact(dH _ _ _ (by simp)).trans (World.alloc_heap_new w _)
 have hI1:I 0 W1:=by rw[<-hW1];exact hI.alloc _ (hI.alloc _ h0)
 have eu:gZ w W1:=by rw[<-hW1];exact((ay _ w).alloc (ah _) _).alloc (by simp) _
 refine⟨w.heap.size+1,[{target:=.collected w.heap.size,args:=#[]}],W1,{target:=.fn (.func gf) lb,args:=#[.func (.yield (w.heap.size+1)) #[] #[]]},W1,gf,#[.func (.yield (w.heap.size+1)) #[] #[]]++lb,W1,?_,?_,fun _ _=>trivial,?_,fun _=>by omega,?_⟩
 ·rw[<-hW1,hrec];exact run_enterLoop_outer _ _ _ _ _
 ·simp only[resolve,hg];simp[go_sem]
 ·simp[invoke,go_sem,eg]
 ·refine(hseq (w.heap.size+1) w.heap.size (rec .ready) W1 eu ⟨hL1,hK1⟩ hI1 ?_).mono ?_
  ·rintro k x W hk ⟨hl,hd⟩ hpre;have hy:=run_yield (P:=P) (args:=encs x) hl (by rw[hrec];exact hps x);rw[hrec] at hy;refine⟨fn,_,assign,body,hy,roundIn_of_wpIn hfn (wpIn_mono (yj (w.heap.size+1) k x W hk (by omega) hpre) ?_)⟩;intro e a' Wa hp
   cases e with
   |normal=>
    obtain⟨hkf,hck,hb⟩:=hp;have hl2:=hkf.same _ _ (by omega) hl rfl;have hd2:=hkf.same _ _ (ah _) hd rfl;have gK:w.heap.size+1<Wa.heap.size:=(aA.1 hl2).1;refine⟨_,run_beginRound hl2 (by rw[hrec]),wpIn_mono (hb _ (grownBy_putObj' _ _ _) ⟨_,hl2,rfl⟩) ?_⟩;rintro e3 a3 W3 ⟨rfl,hk3,hi3,hc3⟩;have hl3:=hk3.same _ _ (by omega) (World.putObj_heap_same gK) rfl;have hd3:=hk3.same _ _ (ah _) ((World.putObj_heap_other (by omega)).trans hd2) rfl;have hr3:=run_endRound (P:=P) none hl3;refine⟨_,_,hr3,rfl,⟨?_,(World.putObj_heap_other (by omega)).trans hd3⟩,hI.putObj _ hi3 (by omega) hl3 rfl,(hck.trans (jW.put hl2 rfl _)).trans (hc3.trans (jW.put hl3 rfl _))⟩;have:=World.putObj_heap_same (o:=.loop (rec .ready)) (aA.1 hl3).1;rw[hrec] at this ⊢;exact this
   |ret=>exact hp.elim
   |exit id=>exact hp.elim
   |goto t=>exact hp.elim
   |panic ch=>exact hp.elim
   |outgrown=>exact hp.elim
  ·rintro e W2 ⟨⟨v,rfl⟩,⟨hl,hd⟩,hi⟩;have hend:=run_endLoop (P:=P) hl (by rw[hrec];simp);refine⟨none,_,by rw[hrec] at hend;exact hend,hdone _ _ (ah _) (hI.putObj _ hi (by omega) hl rfl) ((World.putObj_heap_other (by omega)).trans hd)⟩
end
end Go.Proofs.YthnkncpegihbhaaGreatDoor
