import Derived.Below
import Derived.Test.YtihnikeikhjndaaGreatDoorChecked
set_option maxRecDepth 100000
set_option maxHeartbeats 16000000
namespace Go.Proofs.YtihnikeikhjndaaGreatDoor
section
open Go.RowKit
structure KN(N B:Nat)(X Y:World):Prop where
 size:X.heap.size<=Y.heap.size
 block:∀k,k<N->k≠B->Y.heap[k]?=X.heap[k]?
theorem KN.refl(N B:Nat)(X:World):KN N B X X:=⟨Nat.le_refl _,fun _ _ _=>rfl⟩
theorem KN.trans{N B:Nat}{X Y Z:World}(h:KN N B X Y)(k:KN N B Y Z):KN N B X Z:=⟨Nat.le_trans h.size k.size,fun i h1 h2=>(k.block i h1 h2).trans (h.block i h1 h2)⟩
theorem KN.of{N B:Nat}{X Y:World}(h:Below N X Y):KN N B X Y:=⟨h.size,fun i h1 _=>h.block i h1⟩
theorem KN.cell{N B:Nat}{X Y:World}(h:KN N B X Y){p:Addr}(h1:p.block<N)(h2:p.block≠B):Y.cell? p=X.cell? p:=World.cell?_of_block (h.block _ h1 h2)
def jD(n k:Nat):List Nat:=(List.range k).map fun j=>n-1 - j
theorem He(n k:Nat):(jD n k).length=k:=by simp[jD]
theorem Pn(n k:Nat):jD n (k+1)=jD n k++[n-1 - k]:=by simp[jD,List.range_succ]
abbrev hT(t:Nat):Value:=.pointer (some ⟨9,t,none⟩)
def kJ(w:World):Prop:=w.cell? ⟨0,0,none⟩=some (.iface 227 (.agg #[hT 128]))
theorem kJ.lt{w:World}(h:kJ w):0<w.heap.size:=by
 rcases Nat.lt_or_ge 0 w.heap.size with c|c
 ·exact c
 ·have h':w.cell? ⟨0,0,none⟩=some (.iface 227 (.agg #[hT 128])):=h;simp[World.cell?,Array.getElem?_eq_none c] at h'
theorem kJ.keep{w w':World}{B:Nat}(h:kJ w)(hb:Below B w w')(hB:w.heap.size<=B):kJ w':=
 (World.cell?_of_block (a:=⟨0,0,none⟩) (hb.block _ (Nat.lt_of_lt_of_le h.lt hB))).trans h
end
end Go.Proofs.YtihnikeikhjndaaGreatDoor
