import Derived.Test.YtiidepafifodjabTabB
import Derived.Test.YtiidepafifodjabEq
import Derived.Deep.RegionWith
import Derived.Deep.RegionHeld3
import Derived.Deep.DrawnRows
/-! Tables: two slices of pairs held against each other; the laws' copy of a table. -/
namespace Go.Proofs.Ytiidepafifodjab
open Go.RowKit
attribute [local go_sem] run_store_float
attribute [local go_sem ↓] Go.wp_at_zero Go.wp_at_succ

set_option maxRecDepth 100000 in
set_option maxHeartbeats 4000000 in
theorem eqPair_calls (p : PD) (hp : p.wf) (w : World) : Calls Try.prog 54 #[pOf p, pOf p] w fun e w' => e = .returned (.bool true) ∧ Below w.heap.size w w' := by
  have h1 : Hid (oneF p.key.f p.key.f) := .inl ⟨rfl, hp.f1⟩
  have h2 : Hid (oneF p.val.f p.val.f) := .inl ⟨rfl, hp.f2⟩
  clear hp
  go_enter Try.func54, Try.ntmps54
  go_wp2_with fail
  refine (eqValue_calls _ _ _ _ _ _ h1.out _).mono ?_
  rintro e w2 ⟨rfl, hb2⟩
  have hB := below_call (below_alloc2 _ _ _) hb2
  obtain ⟨hc2, hf2⟩ := bcell hb2
  have hz2 := hb2.size
  (try simp at hz2)
  have ha2 : w.heap.size < w2.heap.size := by omega
  have hb2' : w.heap.size + 1 < w2.heap.size := by omega
  clear hb2 hf2
  go_wp2_with fail
  refine (eqValue_calls _ _ _ _ _ _ h2.out _).mono ?_
  rintro e w3 ⟨rfl, hb3⟩
  replace hB := below_call hB hb3
  obtain ⟨hc3, hf3⟩ := bcell hb3
  clear hb3 hf3
  go_wp2_with fail
  go_ret
  exact ⟨rfl, hB⟩

set_option maxRecDepth 100000 in
set_option maxHeartbeats 8000000 in
theorem eqPairS_calls (a a' : Option Addr) (n cap cap' : Nat) (q : Nat → PD) (w : World) (hn : n ≤ 1048576) (hq : ∀ i, i < n → (q i).wf) (hT : Tab w a n q) (hT' : Tab w a' n q) :
    Calls Try.prog 48 #[.slice a n cap, .slice a' n cap'] w fun e w' => e = .returned (.bool true) ∧ Below w.heap.size w w' := by
  have hQ : Hid (∀ i, i < n → (q i).wf) := hq
  have HT : Hid (Tab w a n q) := hT
  have HT' : Hid (Tab w a' n q) := hT'
  clear hT hT' hq
  go_enter Try.func48, Try.ntmps48
  go_wp2_with fail
  go_loopw [5] (fun i wr => ∃ (k : Nat), k ≤ n ∧ i = .int .i64 k ∧ Below w.heap.size w wr) (fun i _ => n - (intOf i).toNat)
  case atStart => exact ⟨0, Nat.zero_le _, rfl, Below.refl _ _⟩
  case round =>
    obtain ⟨k, hk, rfl, hB⟩ := hrel
    by_cases hkn : k < n
    · obtain ⟨b, off, rfl, hb, hc⟩ := HT.out (by omega)
      obtain ⟨b', off', rfl, hb', hcc⟩ := HT'.out (by omega)
      have hc' : ∀ j, j < 11 → wr.cell? ⟨b, off + k * 11 + j, none⟩ = (pCells (q k))[j]? := fun j hj => (hB.cell (p := ⟨b, off + k * 11 + j, none⟩) hb).trans (hc k hkn j hj)
      have hcc' : ∀ j, j < 11 → wr.cell? ⟨b', off' + k * 11 + j, none⟩ = (pCells (q k))[j]? := fun j hj => (hB.cell (p := ⟨b', off' + k * 11 + j, none⟩) hb').trans (hcc k hkn j hj)
      have d0 := hc' 0 (by omega)
      have d1 := hc' 1 (by omega)
      have d2 := hc' 2 (by omega)
      have d3 := hc' 3 (by omega)
      have d4 := hc' 4 (by omega)
      have d5 := hc' 5 (by omega)
      have d6 := hc' 6 (by omega)
      have d7 := hc' 7 (by omega)
      have d8 := hc' 8 (by omega)
      have d9 := hc' 9 (by omega)
      have d10 := hc' 10 (by omega)
      simp only [List.getElem?_toArray, List.getElem?_cons_zero, List.getElem?_cons_succ, Nat.add_zero] at d0 d1 d2 d3 d4 d5 d6 d7 d8 d9 d10
      clear hc'
      have e0 := hcc' 0 (by omega)
      have e1 := hcc' 1 (by omega)
      have e2 := hcc' 2 (by omega)
      have e3 := hcc' 3 (by omega)
      have e4 := hcc' 4 (by omega)
      have e5 := hcc' 5 (by omega)
      have e6 := hcc' 6 (by omega)
      have e7 := hcc' 7 (by omega)
      have e8 := hcc' 8 (by omega)
      have e9 := hcc' 9 (by omega)
      have e10 := hcc' 10 (by omega)
      simp only [List.getElem?_toArray, List.getElem?_cons_zero, List.getElem?_cons_succ, Nat.add_zero] at e0 e1 e2 e3 e4 e5 e6 e7 e8 e9 e10
      clear hcc'
      clear hc hcc
      have k0 : (0 : Int) ≤ (k : Int) := by omega
      have k1 : (k : Int) < (n : Int) := by omega
      go_wp2_with fail
      go_region_with (go_at_call 54; refine (eqPair_calls (q k) (hQ.out k hkn) _).mono ?_; rintro e w2 ⟨rfl, hb2⟩; (first | replace hB := below_call hB hb2 | replace hB := below_call hB.drew hb2 | replace hB := below_call hB.drew.drew hb2); clear d0 d1 d2 d3 d4 d5 d6 d7 d8 d9 d10 e0 e1 e2 e3 e4 e5 e6 e7 e8 e9 e10 hb2)
      all_goals go_wp2_with fail
      all_goals go_roundw
      case rel => exact ⟨k + 1, by omega, by go_num, hB⟩
      case measure => simp [intOf]; omega
      case rel => exact ⟨k + 1, by omega, by go_num, hB⟩
      case measure => simp [intOf]; omega
    · go_wp2_with fail
      go_ret
      exact ⟨rfl, hB⟩
end Go.Proofs.Ytiidepafifodjab
