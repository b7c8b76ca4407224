import Derived.Test.YtiidepafifodjabTabF
/-! Tables: where each key stands (placesOf). -/
namespace Go.Proofs.Ytiidepafifodjab
open Go.RowKit
attribute [local go_sem] run_store_float

theorem makeMap_run (i : Int) (w : World) : (Instr.makeMap 76 (some (.int .i64 i))).run Try.prog w = .ok (.map (some w.heap.size)) (w.alloc (.map #[] 0)) := by
  simp [Instr.makeMap, run_underlying Try.underlying76, asInt, asIntOf, newObj, Sem.run, Result.andThen]

set_option maxRecDepth 100000 in
set_option maxHeartbeats 4000000 in
theorem placesOf_calls (a : Option Addr) (n cap : Nat) (q : Nat → PD) (w : World) (hn : n ≤ 1048576) (hT : Tab w a n q) :
    Calls Try.prog 74 #[.slice a n cap, .func (.func 75) #[] #[]] w fun e w' => e = .returned (.map (some w.heap.size)) ∧ MapIs w' w.heap.size (places q n) ∧ Below w.heap.size w w' := by
  have HT : Hid (Tab w a n q) := hT
  clear hT
  have hmk := makeMap_run n w
  have hM0 := MapIs.new w
  have hB0 := below_alloc w (.map #[] 0)
  go_enter Try.func74, Try.ntmps74
  go_wp2_with fail
  clear hmk
  go_loopw [13] (fun i wr => ∃ (k : Nat), k ≤ n ∧ i = .int .i64 k ∧ MapIs wr w.heap.size (places q k) ∧ Below w.heap.size w wr) (fun i _ => n - (intOf i).toNat)
  case atStart => exact ⟨0, Nat.zero_le _, rfl, hM0, hB0⟩
  case round =>
    clear hM0 hB0
    obtain ⟨k, hk, rfl, hM, hB⟩ := hrel
    by_cases hkn : k < n
    · obtain ⟨b, off, rfl, hb, hc⟩ := HT.out (by omega)
      have hc' : ∀ j, j < 11 → wr.cell? ⟨b, off + k * 11 + j, none⟩ = (pCells (q k))[j]? := fun j hj => (hB.cell (p := ⟨b, off + k * 11 + j, none⟩) hb).trans (hc k hkn j hj)
      have d0 := hc' 0 (by omega)
      have d1 := hc' 1 (by omega)
      have d2 := hc' 2 (by omega)
      have d3 := hc' 3 (by omega)
      have d4 := hc' 4 (by omega)
      have d5 := hc' 5 (by omega)
      have d6 := hc' 6 (by omega)
      have d7 := hc' 7 (by omega)
      have d8 := hc' 8 (by omega)
      have d9 := hc' 9 (by omega)
      have d10 := hc' 10 (by omega)
      simp only [List.getElem?_toArray, List.getElem?_cons_zero, List.getElem?_cons_succ, Nat.add_zero] at d0 d1 d2 d3 d4 d5 d6 d7 d8 d9 d10
      clear hc'
      clear hc
      have HM : Hid (MapIs wr w.heap.size (places q k)) := hM
      clear hM
      go_wp2_with fail
      refine (pairMark_calls (q k) _).mono ?_
      rintro e w2 ⟨rfl, hb2⟩
      clear d0 d1 d2 d3 d4 d5 d6 d7 d8 d9 d10
      have hM2 := (HM.out.alloc _).below hb2
      replace hB := below_call (below_a hB _) hb2
      obtain ⟨w3, hrun, hM3, hturn⟩ := update_run Try.underlying76 markT hM2 (mk (q k).key) k
      replace hB := hB.grown hturn.grown hB.size (fun k e => by cases e; exact Nat.le_refl _)
      have HM3 : Hid (MapIs w3 w.heap.size (places q (k + 1))) := hM3
      clear hM2 hM3 hturn hb2 HM
      go_wp2_with fail
      go_roundw
      case rel => exact ⟨k + 1, by omega, by go_num, HM3.out, hB⟩
      case measure => simp [intOf]; omega
    · have : k = n := by omega
      subst this
      go_wp2_with fail
      go_ret
      exact ⟨rfl, hM, hB⟩
end Go.Proofs.Ytiidepafifodjab
