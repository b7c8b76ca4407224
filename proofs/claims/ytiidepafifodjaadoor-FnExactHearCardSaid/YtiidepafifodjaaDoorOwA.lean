import Derived.Test.YtiidepafifodjaaDoorUnC
import Derived.Maps.AppendAt
import Derived.Deep.AppendLies
/-! Rows of one's own, of things of any number of cells. -/
namespace Go.Proofs.YtiidepafifodjaaDoor
open Go.RowKit

theorem ownsK_form {u : World} {N K : Nat} {t : TypeId} {v : Value} {n : Nat} {xs : List Value} (h : u.ownsRow N t K v n xs) : ∃ a cap, v = .slice a n cap := by
  rcases h.2 with ⟨rfl, rfl⟩ | ⟨g, cap, cur, rfl, _⟩
  · exact ⟨_, _, rfl⟩
  · exact ⟨_, _, rfl⟩
theorem ownsK_block {u w : World} {N K : Nat} {t : TypeId} {v : Value} {n : Nat} {xs : List Value} (h : u.ownsRow N t K v n xs) (hk : ∀ k, v.ownBlock = some k → w.heap[k]? = u.heap[k]?) : w.ownsRow N t K v n xs := by
  refine ⟨h.1, ?_⟩
  rcases h.2 with h2 | ⟨g, cap', cur, e2, h3, hh, r⟩
  · exact .inl h2
  · exact .inr ⟨g, cap', cur, e2, h3, (hk g (by rw [e2]; rfl)).trans hh, r⟩
theorem ownsK_below {u w : World} {N K : Nat} {t : TypeId} {v : Value} {n : Nat} {xs : List Value} (h : u.ownsRow N t K v n xs) (hb : Below u.heap.size u w) : w.ownsRow N t K v n xs :=
  ownsK_block h fun k e => hb.block k (h.lt k e).2
theorem ownsK_set {u : World} {N K : Nat} {t : TypeId} {v : Value} {n : Nat} {xs : List Value} (h : u.ownsRow N t K v n xs) {R j : Nat} (x : Value) (hR : ∀ k, v.ownBlock = some k → k ≠ R) : (u.setCell ⟨R, j, none⟩ x).ownsRow N t K v n xs :=
  ownsK_block h fun k e => Below.heap_setCell _ _ _ _ (by have := hR k e; exact this)
theorem has_grownK {u w' : World} {B : Nat} {A : Array Value} {r : Option Nat} (h : Has u B A) (hg : u.grownBy w' r) (hne : some B ≠ r) : Has w' B A := ⟨Nat.lt_of_lt_of_le h.1 hg.size, fun o => (World.cell?_of_block (a := ⟨B, o, none⟩) (hg.block B h.1 hne)).trans (h.2 o)⟩
theorem frozen_grownK {u w' : World} {B : Nat} {r : Option Nat} (h : ∀ j, u.frozen? ⟨B, j, none⟩ = false) (hB : B < u.heap.size) (hg : u.grownBy w' r) (hne : some B ≠ r) : ∀ j, w'.frozen? ⟨B, j, none⟩ = false := fun j => by
  have e := hg.block B hB hne
  have := h j
  unfold World.frozen? at this ⊢
  rw [e]
  exact this
theorem below_grownK {N : Nat} {w u w' : World} {r : Option Nat} (hB : Below N w u) (hg : u.grownBy w' r) (h : ∀ k, r = some k → N ≤ k) (hN : N ≤ u.heap.size) : Below N w w' := hB.grown hg hN h
theorem new_news (w : World) (cs : Array Value) (t : TypeId) : ∀ (j : Nat) (u : Value), cs.toList[j]? = some u → (w.alloc (.cells cs t)).cell? ((⟨w.heap.size, 0, none⟩ : Addr).add j) = some u :=
  World.news_of_block (cs := cs) (t := t) (fr := (0, 0)) (MapKept.heap_alloc w _).1
end Go.Proofs.YtiidepafifodjaaDoor
