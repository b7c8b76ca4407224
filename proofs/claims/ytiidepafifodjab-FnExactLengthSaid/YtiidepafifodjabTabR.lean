import Derived.Test.YtiidepafifodjabTabQ
/-! Tables: the specification's length. -/
namespace Go.Proofs.Ytiidepafifodjab
open Go.RowKit
attribute [local go_sem] run_store_float
attribute [local go_sem ↓] Go.wp_at_zero Go.wp_at_succ

theorem iv_ok (i : Int) : kOk (iv i) = true := by
  have o : okB 2 i 0 ⟨#[]⟩ 0 = true := by simp [okB, ueB, usB, se, fz, order00]
  simp [kOk, kc, kv, iv, o]
theorem at_pos {q : Nat → PD} {n i : Nat} (h : 0 ≤ atI q (mk (iv (i : Int))) n) : pres q n i := by
  unfold atI at h
  cases hf : fnd q (mk (iv (i : Int))) n with
  | none => rw [hf] at h; simp at h
  | some j => obtain ⟨h1, h2⟩ := fnd_at hf; exact ⟨j, h1, h2⟩
theorem at_neg {q : Nat → PD} {n i : Nat} (h : ¬ 0 ≤ atI q (mk (iv (i : Int))) n) : ¬ pres q n i := by
  rintro ⟨j, h1, h2⟩
  unfold atI at h
  cases hf : fnd q (mk (iv (i : Int))) n with
  | none => exact fnd_no hf j h1 h2
  | some j => rw [hf] at h; simp at h
theorem pres_more {q : Nat → PD} {n k : Nat} (h : ∀ i, i < k → pres q n (i + 1)) (hk : pres q n (k + 1)) : ∀ i, i < k + 1 → pres q n (i + 1) := fun i hi => by
  by_cases e : i = k
  · subst e; exact hk
  · exact h i (by omega)

set_option maxRecDepth 100000 in
set_option maxHeartbeats 8000000 in
theorem l2length_calls (a : Option Addr) (n cap : Nat) (t : Int) (q : Nat → PD) (w : World) (hq : ∀ i, i < n → (q i).wf) (hok : TabOk n t q) (hT : Tab w a n q) :
    Calls Try.prog 55 #[tOf a n cap t] w fun e w' => (∃ r : Nat, e = .returned (.int .i64 (r : Int)) ∧ LenIs q n r) ∧ Below w.heap.size w w' := by
  have hn := hok.nn
  have hA : Hid (∀ (i : Int) w, Tab w a n q → Calls Try.prog 77 #[tOf a n cap t, vOf 2 i 0 ⟨#[]⟩ 0] w fun e w' => e = .returned (.int .i64 (atI q (mk (iv i)) n)) ∧ Below w.heap.size w w') := fun i w h =>
    l2at_calls a n cap t q (iv i) w (by omega) hq (fun i hi => row_key (hok.row i hi)) (iv_ok i) (by show 0 < 2 ^ 64; decide) (by show 0 ≤ maxLen; omega) h
  have HT : Hid (Tab (tbW w a n cap t) a n q) := hT.alloc _
  clear hq hok hT
  go_enter Try.func55, Try.ntmps55
  go_wp2_with fail
  go_loopw [3] (fun i wr => ∃ (k : Nat), i = .int .i64 k ∧ (∀ i, i < k → pres q n (i + 1)) ∧ Below (tbW w a n cap t).heap.size (tbW w a n cap t) wr) (fun i _ => n + 1 - (intOf i).toNat)
  case atStart => exact ⟨0, rfl, fun i hi => by omega, Below.refl _ _⟩
  case round =>
    obtain ⟨k, rfl, hp, hB⟩ := hrel
    have hkn := pres_le hp
    have hP : Hid (∀ i, i < k → pres q n (i + 1)) := hp
    clear hp
    have HT2 : Hid (Tab wr a n q) := HT.out.below hB
    obtain ⟨x0, x1, z0⟩ := tb_cells hB
    have hAk : Hid (∀ w, Tab w a n q → Calls Try.prog 77 #[tOf a n cap t, vOf 2 (IntKind.i64.wrap ((k : Int) + 1)) 0 ⟨#[]⟩ 0] w fun e w' => e = .returned (.int .i64 (atI q (mk (iv ((k + 1 : Nat) : Int))) n)) ∧ Below w.heap.size w w') := fun w h => by
      have := hA.out ((k + 1 : Nat) : Int) w h
      rw [show IntKind.i64.wrap ((k : Int) + 1) = ((k + 1 : Nat) : Int) by rw [IntKind.wrap_i64]; omega]; exact this
    have hBw : Hid (Below w.heap.size w wr) := below_call (below_alloc _ _) hB
    have HB : Hid (Below (tbW w a n cap t).heap.size (tbW w a n cap t) wr) := hB
    clear hB
    by_cases hf : 0 ≤ atI q (mk (iv ((k + 1 : Nat) : Int))) n
    · have hs : Hid (∀ i, i < k + 1 → pres q n (i + 1)) := pres_more hP.out (at_pos hf)
      have hk1 := pres_le hs.out
      generalize atI q (mk (iv ((k + 1 : Nat) : Int))) n = r at hf hAk
      go_wp2_with fail
      go_region_with (first | (go_at_call 40; refine (l1int_calls _ _).mono ?_; rintro e w2 ⟨rfl, hb2⟩; replace HT2 : Hid (Tab w2 a n q) := (by first | exact HT2.out.below hb2 | exact HT2.out.drew.below hb2); replace HB : Hid (Below (tbW w a n cap t).heap.size (tbW w a n cap t) w2) := (by first | exact below_ix HB.out hb2 | exact below_ix HB.out.drew hb2); clear x0 x1 z0 hb2; obtain ⟨x0, x1, z0⟩ := tb_cells HB.out) | (go_at_call 77; refine (hAk.out _ (by first | exact HT2.out | exact HT2.out.drew)).mono ?_; rintro e w3 ⟨rfl, hb3⟩; replace HB : Hid (Below (tbW w a n cap t).heap.size (tbW w a n cap t) w3) := (by first | exact below_ix HB.out hb3 | exact below_ix HB.out.drew hb3); clear x0 x1 z0 hb3))
      all_goals go_wp2_with fail
      all_goals go_roundw
      all_goals first | exact ⟨k + 1, by go_num, hs.out, HB.out⟩ | (simp [intOf]; omega)
    · have hs : Hid (LenIs q n k) := ⟨hP.out, at_neg hf⟩
      generalize atI q (mk (iv ((k + 1 : Nat) : Int))) n = r at hf hAk
      go_wp2_with fail
      go_region_with (first | (go_at_call 40; refine (l1int_calls _ _).mono ?_; rintro e w2 ⟨rfl, hb2⟩; replace HT2 : Hid (Tab w2 a n q) := (by first | exact HT2.out.below hb2 | exact HT2.out.drew.below hb2); replace HB : Hid (Below (tbW w a n cap t).heap.size (tbW w a n cap t) w2) := (by first | exact below_ix HB.out hb2 | exact below_ix HB.out.drew hb2); clear x0 x1 z0 hb2; obtain ⟨x0, x1, z0⟩ := tb_cells HB.out) | (go_at_call 77; refine (hAk.out _ (by first | exact HT2.out | exact HT2.out.drew)).mono ?_; rintro e w3 ⟨rfl, hb3⟩; replace HB : Hid (Below (tbW w a n cap t).heap.size (tbW w a n cap t) w3) := (by first | exact below_ix HB.out hb3 | exact below_ix HB.out.drew hb3); clear x0 x1 z0 hb3))
      all_goals go_wp2_with fail
      all_goals go_ret
      all_goals exact ⟨⟨k, rfl, hs.out⟩, below_call (below_alloc _ _) HB.out⟩
end Go.Proofs.Ytiidepafifodjab
