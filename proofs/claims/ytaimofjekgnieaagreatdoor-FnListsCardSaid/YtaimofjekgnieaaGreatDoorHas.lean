import Derived.Test.YtaimofjekgnieaaGreatDoorPlain
import Derived.Below
set_option maxRecDepth 100000
set_option maxHeartbeats 16000000
namespace Go.Proofs.YtaimofjekgnieaaGreatDoor
open Go.RowKit
def Has (w:World) (B:Nat) (A:Array Value):Prop:=B<w.heap.size/\∀ o,w.cell? ⟨B,o,none⟩=A[o]?
theorem Has.lt {w:World} {B:Nat} {A:Array Value} (h:Has w B A):B<w.heap.size:=h.1
theorem Has.at {w:World} {B:Nat} {A:Array Value} (h:Has w B A):∀ o,w.cell? ⟨B,o,none⟩=A[o]?:=h.2
theorem Has.call {u w:World} {B:Nat} {A:Array Value} (h:Has u B A) (hb:Below u.heap.size u w):Has w B A:=
 ⟨Nat.lt_of_lt_of_le h.1 hb.size,fun o=>(hb.cell (p:=⟨B,o,none⟩) h.1).trans (h.2 o)⟩
theorem Has.new (w:World) (A:Array Value) (t:TypeId):Has (w.alloc (.cells A t)) w.heap.size A:=
 ⟨by simp,fun o=>World.cell?_alloc_new w A t o⟩
theorem Has.alloc {w:World} {B:Nat} {A:Array Value} (h:Has w B A) (o:Obj):Has (w.alloc o) B A:=
 ⟨by have:=h.1;simp;omega,fun i=>(World.cell?_alloc_lt w o ⟨B,i,none⟩ h.1).trans (h.2 i)⟩
theorem Has.drew {w:World} {B:Nat} {A:Array Value} (h:Has w B A):Has w.drew B A:=h
theorem Has.made {u w:World} {A:Array Value} {t:TypeId} (hb:Below (u.alloc (.cells A t)).heap.size (u.alloc (.cells A t)) w):Has w u.heap.size A:=(Has.new u A t).call hb
structure VD where
 k:Int
 n:Int
 f:Nat
 s:ByteArray
 r:Int
def vz:VD:=⟨0,0,0,⟨#[]⟩,0⟩
abbrev VD.v (x:VD):Value:=vOf x.k x.n x.f x.s x.r
def OwnB (w:World) (B:Nat) (A:Array Value):Prop:=Has w B A/\∀ o,w.frozen? ⟨B,o,none⟩=false
theorem OwnB.block {w w':World} {B:Nat} {A:Array Value} (h:OwnB w B A) (hs:w.heap.size<=w'.heap.size) (hk:w'.heap[B]?=w.heap[B]?):OwnB w' B A:=
 ⟨⟨Nat.lt_of_lt_of_le h.1.1 hs,fun o=>(World.cell?_of_block (a:=⟨B,o,none⟩) hk).trans (h.1.2 o)⟩,fun o=>(World.frozen?_of_block (a:=⟨B,o,none⟩) hk).trans (h.2 o)⟩
theorem OwnB.set {w:World} {B:Nat} {A:Array Value} (h:OwnB w B A) {o:Nat} (ho:o<A.size) (v:Value):OwnB (w.setCell ⟨B,o,none⟩ v) B (A.setIfInBounds o v):=by
 refine ⟨⟨by have:=h.1.1;simpa using this,fun i=>?_⟩,fun i=>by rw[World.frozen?_setCell];exact h.2 i⟩
 have h0:w.cell? ⟨B,o,none⟩=some (A[o]'ho):=by rw[h.1.2 o,Array.getElem?_eq_getElem ho]
 rw[Array.getElem?_setIfInBounds]
 by_cases e:o=i
 ·subst e
  rw[if_pos rfl,if_pos ho]
  simp[go_sem,h0]
 ·rw[if_neg e,<-h.1.2 i]
  exact World.cell?_setCell_other _ _ _ _ (by intro c;cases c;exact e rfl)
theorem OwnB.new (w:World) (A:Array Value) (t:TypeId):OwnB (w.alloc (.cells A t)) w.heap.size A:=⟨Has.new w A t,fun o=>by simp⟩
def bkOf (a:Option Addr):Option Nat:=a.map (·.block)
theorem q08 (a:Option Addr) (n cap:Nat):(Value.slice a n cap).ownBlock=bkOf a:=by cases a<;>rfl
end Go.Proofs.YtaimofjekgnieaaGreatDoor
