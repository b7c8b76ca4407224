import Derived.Below
import Derived.Test.YtihnikeikhjndaaGreatDoorChecked
import Derived.WalkKit
import Derived.WalkLawsBesides
set_option maxRecDepth 100000
set_option maxHeartbeats 16000000
namespace Go.Proofs.YtihnikeikhjndaaGreatDoor
section
open Go.RowKit
abbrev ah(w w':World):Prop:=Below w.heap.size w w'
theorem aG{α:Type _}{l:List α}{i:Nat}{a:α}:l.toArray.setIfInBounds i a=(l.set i a).toArray:=List.setIfInBounds_toArray ..
theorem aF{α:Type _}{a b:α}{l:List α}:(a::l).set 0 b=b::l:=rfl
theorem aA{α:Type _}{a b:α}{l:List α}{n:Nat}:(a::l).set (n+1) b=a::l.set n b:=rfl
theorem aN(P:Program)(w:World)(a:Addr)(m:Mode)(k:FloatKind)(b:Nat):(store a (.float k b) m).run P w=stored P w a (.float k b) m:=run_store P w a _ m rfl
theorem zH:FloatKind.f64.format.order 0 0=some Ordering.eq:=by decide
def fz(f:Nat):Bool:=FloatKind.f64.format.order f 0==some Ordering.eq
def se(s:ByteArray):Bool:=s.toList.isEmpty
def fU(k n:Int)(f:Nat)(s:ByteArray)(r:Int):Bool:=
 if k=1\/k=2\/k=8 then fz f && se s && r==0
 else if k=3 then n==0 && se s && r==0
 else if k=4 then n==0 && fz f && r==0
 else if k=5\/k=6\/k=7 then n==0 && fz f && se s
 else n==0 && fz f && se s && r==0
def iG(k n:Int)(s:ByteArray)(r:Int):Bool:=
 if k=0 then true
 else if k=1 then n==0 || n==1
 else if k=2 then true
 else if k=3 then true
 else if k=4 then decide ((s.size:Int)<=4000)
 else if k=5\/k=6\/k=7 then decide (0<=r)
 else if k=8 then decide (0<=n) && decide (n<15)
 else false
def okB(k n:Int)(f:Nat)(s:ByteArray)(r:Int):Bool:=fU k n f s r && iG k n s r
abbrev dI(k n:Int)(f:Nat)(s:ByteArray)(r:Int):Value:=.agg #[.int .i64 k,.int .i64 n,.float .f64 f,.string s,.int .i64 r]
theorem dh{a b:Bool}(h:a=b):Ending.returned (.bool a)=.returned (.bool b):=by rw[h]
theorem yd4{k:IntKind}{a b:Int}(h:a=b):Ending.returned (.int k a)=.returned (.int k b):=by rw[h]
theorem bY{W w1:World}(hb:ah W w1):(∀b o,b<W.heap.size->w1.cell? ⟨b,o,none⟩=W.cell? ⟨b,o,none⟩)/\(∀b o,b<W.heap.size->w1.frozen? ⟨b,o,none⟩=W.frozen? ⟨b,o,none⟩):=
 ⟨fun b o h=>hb.cell (p:=⟨b,o,none⟩) h,fun b o h=>hb.frozen (p:=⟨b,o,none⟩) h⟩
theorem aH{w w1 w2:World}(h1:ah w w1)(h2:ah w1 w2):ah w w2:=h1.trans (h2.mono h1.size)
theorem q01(w:World)(o:Obj):ah w (w.alloc o):=(Below.refl _ _).alloc (Nat.le_refl _) _
theorem KH{a b:Value}(h:a=b):Ending.returned a=.returned b:=by rw[h]
theorem Gl{B blk:Nat}{a w:World}(h:Below B a w)(hp:B<=blk)(v0 v1 v2 v3 v4 v5:Value):Below B a ((((((w.setCell ⟨blk,0,none⟩ v0).setCell ⟨blk,1,none⟩ v1).setCell ⟨blk,2,none⟩ v2).setCell ⟨blk,3,none⟩ v3).setCell ⟨blk,4,none⟩ v4).setCell ⟨blk,5,none⟩ v5):=
 (((((h.setCell (p:=⟨blk,0,none⟩) hp v0).setCell (p:=⟨blk,1,none⟩) hp v1).setCell (p:=⟨blk,2,none⟩) hp v2).setCell (p:=⟨blk,3,none⟩) hp v3).setCell (p:=⟨blk,4,none⟩) hp v4).setCell (p:=⟨blk,5,none⟩) hp v5
theorem lU{B blk:Nat}{a w:World}(h:Below B a w)(hp:B<=blk)(v0 v1 v2 v3 v4:Value):Below B a (((((w.setCell ⟨blk,0,none⟩ v0).setCell ⟨blk,1,none⟩ v1).setCell ⟨blk,2,none⟩ v2).setCell ⟨blk,3,none⟩ v3).setCell ⟨blk,4,none⟩ v4):=
 ((((h.setCell (p:=⟨blk,0,none⟩) hp v0).setCell (p:=⟨blk,1,none⟩) hp v1).setCell (p:=⟨blk,2,none⟩) hp v2).setCell (p:=⟨blk,3,none⟩) hp v3).setCell (p:=⟨blk,4,none⟩) hp v4
theorem iy(w:World)(o o':Obj):ah w ((w.alloc o).alloc o'):=(q01 w o).alloc (by simp) _
theorem yG(w:World)(o o' o'':Obj):ah w (((w.alloc o).alloc o').alloc o''):=(iy w o o').alloc (by simp;omega) _
theorem lW{w u:World}(h:ah w u)(o:Obj):ah w (u.alloc o):=h.alloc h.size _
def Has(w:World)(B:Nat)(A:Array Value):Prop:=B<w.heap.size/\∀o,w.cell? ⟨B,o,none⟩=A[o]?
theorem Has.lt{w:World}{B:Nat}{A:Array Value}(h:Has w B A):B<w.heap.size:=h.1
theorem Has.at{w:World}{B:Nat}{A:Array Value}(h:Has w B A):∀o,w.cell? ⟨B,o,none⟩=A[o]?:=h.2
theorem Has.call{u w:World}{B:Nat}{A:Array Value}(h:Has u B A)(hb:ah u w):Has w B A:=
 ⟨Nat.lt_of_lt_of_le h.1 hb.size,fun o=>(hb.cell (p:=⟨B,o,none⟩) h.1).trans (h.2 o)⟩
theorem Has.new(w:World)(A:Array Value)(t:TypeId):Has (w.alloc (.cells A t)) w.heap.size A:=
 ⟨by simp,fun o=>World.cell?_alloc_new w A t o⟩
theorem Has.alloc{w:World}{B:Nat}{A:Array Value}(h:Has w B A)(o:Obj):Has (w.alloc o) B A:=
 ⟨by have:=h.1;simp;omega,fun i=>(World.cell?_alloc_lt w o ⟨B,i,none⟩ h.1).trans (h.2 i)⟩
theorem Has.drew{w:World}{B:Nat}{A:Array Value}(h:Has w B A):Has w.drew B A:=h
theorem Has.made{u w:World}{A:Array Value}{t:TypeId}(hb:Below (u.alloc (.cells A t)).heap.size (u.alloc (.cells A t)) w):Has w u.heap.size A:=(Has.new u A t).call hb
structure VD where
 k:Int
 n:Int
 f:Nat
 s:ByteArray
 r:Int
def vz:VD:=⟨0,0,0,⟨#[]⟩,0⟩
abbrev VD.v(x:VD):Value:=dI x.k x.n x.f x.s x.r
def OwnB(w:World)(B:Nat)(A:Array Value):Prop:=Has w B A/\∀o,w.frozen? ⟨B,o,none⟩=false
theorem OwnB.block{w w':World}{B:Nat}{A:Array Value}(h:OwnB w B A)(hs:w.heap.size<=w'.heap.size)(hk:w'.heap[B]?=w.heap[B]?):OwnB w' B A:=
 ⟨⟨Nat.lt_of_lt_of_le h.1.1 hs,fun o=>(World.cell?_of_block (a:=⟨B,o,none⟩) hk).trans (h.1.2 o)⟩,fun o=>(World.frozen?_of_block (a:=⟨B,o,none⟩) hk).trans (h.2 o)⟩
theorem OwnB.set{w:World}{B:Nat}{A:Array Value}(h:OwnB w B A){o:Nat}(ho:o<A.size)(v:Value):OwnB (w.setCell ⟨B,o,none⟩ v) B (A.setIfInBounds o v):=by
 refine⟨⟨by have:=h.1.1;simpa using this,fun i=>?_⟩,fun i=>by rw[World.frozen?_setCell];exact h.2 i⟩;have h0:w.cell? ⟨B,o,none⟩=some (A[o]'ho):=by rw[h.1.2 o,Array.getElem?_eq_getElem ho]
 rw[Array.getElem?_setIfInBounds];by_cases e:o=i
 ·subst e;rw[if_pos rfl,if_pos ho];simp[go_sem,h0]
 ·rw[if_neg e,<-h.1.2 i];exact World.cell?_setCell_other _ _ _ _ (by intro c;cases c;exact e rfl)
theorem OwnB.new(w:World)(A:Array Value)(t:TypeId):OwnB (w.alloc (.cells A t)) w.heap.size A:=⟨Has.new w A t,fun o=>by simp⟩
def aj(a:Option Addr):Option Nat:=a.map (·.block)
theorem dD(a:Option Addr)(n cap:Nat):(Value.slice a n cap).ownBlock=aj a:=by cases a<;>rfl
end
end Go.Proofs.YtihnikeikhjndaaGreatDoor
