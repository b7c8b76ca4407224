import Derived.Test.YtiidepafifodjaaFtB
import Derived.Maps.AppendAt
/-! FnTables: its own rows and its state. -/
namespace Go.Proofs.Ytiidepafifodjaa
open Go.RowKit

def ints (K : Nat → Int) (n : Nat) : List Value := (List.range n).map fun i => .int .i64 (K i)
theorem ints_len (K : Nat → Int) (n : Nat) : (ints K n).length = n := by simp [ints]
theorem ints_at {K : Nat → Int} {n i : Nat} (hi : i < n) : (ints K n)[i]? = some (.int .i64 (K i)) := by simp [ints, hi]
theorem ints_ext {K L : Nat → Int} {n : Nat} (h : ∀ i, i < n → K i = L i) : ints K n = ints L n := by
  unfold ints
  refine List.map_congr_left fun i hi => ?_
  rw [h i (List.mem_range.1 hi)]
theorem ints_add (K : Nat → Int) (n : Nat) (x : Int) : ints (upF K n x) (n + 1) = ints K n ++ [.int .i64 x] := by
  unfold ints
  rw [List.range_succ, List.map_append]
  congr 1
  · refine List.map_congr_left fun i hi => ?_
    have := List.mem_range.1 hi
    simp [upF, show i ≠ n by omega]
  · simp [upF]
theorem ints_zero (K : Nat → Int) : ints K 0 = [] := rfl

/-- a row of ints of one's own -/
abbrev OI (u : World) (N : Nat) (a : Option Addr) (n cap : Nat) (K : Nat → Int) : Prop := u.ownsRow N 3 1 (.slice a n cap) n (ints K n)
def bOf (a : Option Addr) : Option Nat := a.map (·.block)
theorem ownB (a : Option Addr) (n cap : Nat) : (Value.slice a n cap).ownBlock = bOf a := by cases a <;> rfl

theorem OI_none (u : World) (N : Nat) (K : Nat → Int) : OI u N none 0 0 K := ⟨by simp [ints_len], .inl ⟨rfl, rfl⟩⟩
theorem OI.ge {u : World} {N : Nat} {a : Option Addr} {n cap : Nat} {K : Nat → Int} (h : OI u N a n cap K) {k : Nat} (e : bOf a = some k) : N ≤ k ∧ k < u.heap.size := by
  rcases h.2 with ⟨h2, _⟩ | ⟨g, cap', cur, e2, h3, hh, _⟩
  · cases h2; cases e
  · cases e2; cases e; exact ⟨h3, (Array.getElem?_eq_some_iff.1 hh).1⟩
theorem OI.row {u : World} {N : Nat} {a : Option Addr} {n cap : Nat} {K : Nat → Int} (h : OI u N a n cap K) : IRow u a n K := fun hn => by
  rcases h.2 with ⟨_, h2⟩ | ⟨g, cap', cur, e2, h3, hh, h4, _, h6, h7⟩
  · omega
  · cases e2
    refine ⟨g, 0, rfl, fun i hi => ?_⟩
    have h8 : (cur.toList.take (n * 1))[i]? = some (.int .i64 (K i)) := by rw [h7]; exact ints_at hi
    rw [List.getElem?_take_of_lt (by omega), Array.getElem?_toList] at h8
    simp [World.cell?, hh, h8]
theorem OI.block {u w : World} {N : Nat} {a : Option Addr} {n cap : Nat} {K : Nat → Int} (h : OI u N a n cap K) (hk : ∀ k, bOf a = some k → w.heap[k]? = u.heap[k]?) : OI w N a n cap K := by
  refine ⟨h.1, ?_⟩
  rcases h.2 with h2 | ⟨g, cap', cur, e2, h3, hh, r⟩
  · exact .inl h2
  · cases e2
    exact .inr ⟨g, cap, cur, rfl, h3, (hk g rfl).trans hh, r⟩
theorem OI.below {u w : World} {N : Nat} {a : Option Addr} {n cap : Nat} {K : Nat → Int} (h : OI u N a n cap K) (hb : Below u.heap.size u w) : OI w N a n cap K := h.block fun k e => hb.block k (h.ge e).2
theorem OI.grown {u w : World} {N : Nat} {a : Option Addr} {n cap : Nat} {K : Nat → Int} {r : Option Nat} (h : OI u N a n cap K) (hg : u.grownBy w r) (hne : bOf a ≠ r ∨ bOf a = none) : OI w N a n cap K := h.block fun k e => hg.block k (h.ge e).2 (fun c => by
  rcases hne with hne | hne
  · exact hne (e.trans c)
  · rw [hne] at e; cases e)
theorem OI.ext {u : World} {N : Nat} {a : Option Addr} {n cap : Nat} {K L : Nat → Int} (h : OI u N a n cap K) (e : ∀ i, i < n → K i = L i) : OI u N a n cap L := by
  unfold OI
  rw [← ints_ext e]
  exact h
theorem OI.form {u : World} {N : Nat} {v : Value} {n : Nat} {xs : List Value} (h : u.ownsRow N 3 1 v n xs) : ∃ a cap, v = .slice a n cap := by
  rcases h.2 with ⟨rfl, rfl⟩ | ⟨g, cap, cur, rfl, _⟩
  · exact ⟨_, _, rfl⟩
  · exact ⟨_, _, rfl⟩
/-- a cell of it is written -/
theorem OI.set {u : World} {N : Nat} {b n cap : Nat} {K : Nat → Int} (h : OI u N (some ⟨b, 0, none⟩) n cap K) {i : Nat} (hi : i < n) (x : Int) : OI (u.setCell ⟨b, i, none⟩ (.int .i64 x)) N (some ⟨b, 0, none⟩) n cap (upF K i x) := by
  refine ⟨by simp [ints_len], ?_⟩
  rcases h.2 with ⟨h2, _⟩ | ⟨g, cap', cur, e2, h3, hh, h4, h5, h6, h7⟩
  · cases h2
  · cases e2
    have hl : i < cur.size := by omega
    have hb : (u.setCell ⟨b, i, none⟩ (.int .i64 x)).heap[b]? = some (.cells (cur.setIfInBounds i (.int .i64 x)) 3 (0, 0)) := by
      unfold World.setCell
      show (u.heap.modify b _)[b]? = _
      rw [Array.getElem?_modify, if_pos rfl, hh]
      simp
    refine .inr ⟨b, cap, _, rfl, h3, hb, h4, h5, by simp [h6], ?_⟩
    refine List.ext_getElem? fun j => ?_
    by_cases hj : j < n
    · rw [List.getElem?_take_of_lt (by omega), ints_at hj, Array.getElem?_toList, Array.getElem?_setIfInBounds]
      unfold upF
      by_cases e : i = j
      · subst e; simp [hl]
      · have h8 : (cur.toList.take (n * 1))[j]? = some (.int .i64 (K j)) := by rw [h7]; exact ints_at hj
        rw [List.getElem?_take_of_lt (by omega), Array.getElem?_toList] at h8
        simp [e, Ne.symm e, h8]
    · rw [List.getElem?_take, if_neg (by omega), List.getElem?_eq_none (by rw [ints_len]; omega)]
end Go.Proofs.Ytiidepafifodjaa
