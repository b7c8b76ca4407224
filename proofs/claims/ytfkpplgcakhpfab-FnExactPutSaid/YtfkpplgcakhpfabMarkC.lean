import Derived.Test.YtfkpplgcakhpfabMarkB
/-! The laws' marks in a table: still held. -/
namespace Go.Proofs.Ytfkpplgcakhpfab
open Go.RowKit
attribute [local go_sem] run_store_float
attribute [local go_sem ↓] Go.wp_at_zero Go.wp_at_succ

theorem int_self (z : Nat) (h : z < 2 ^ 53) : FloatKind.f64.format.order (floatOfInt .f64 (z : Int)) (floatOfInt .f64 (z : Int)) = some .eq := by
  have e : floatOfInt .f64 (z : Int) = Fl.enc false (z * 2 ^ 1074) := by
    have h0 := Fl.ofInt (z : Int)
    rw [h0, show decide ((z : Int) < 0) = false by simp, Int.natAbs_natCast]
  have hr := Fl.read_enc false (Fl.rep_int h)
  rw [e]
  have ho := Fl.order_fin hr hr
  generalize Fl.sv false (z * 2 ^ 1074) = c at ho
  refine ho.trans ?_
  rw [show compare c c = .eq by simp]

set_option maxRecDepth 100000 in
set_option maxHeartbeats 4000000 in
theorem heldPairS_calls (a : Option Addr) (n cap : Nat) (k : Nat) (w : World) (hk : 0 < k) (hk2 : k + n * 11 ≤ 100000000) (hT : Tab w a n (mkq k)) :
    Calls Try.prog 40 #[.slice a n cap, .int .i64 k] w fun e w' => e = .returned (.int .i64 ((k + n * 11 : Nat) : Int)) ∧ Below w.heap.size w w' := by
  have HT : Hid (Tab w a n (mkq k)) := hT
  clear hT
  go_enter Try.func40, Try.ntmps40
  go_wp2_with fail
  go_loopw [1, 5] (fun kv iv wr => ∃ (i : Nat), i ≤ n ∧ kv = .int .i64 ((k + i * 11 : Nat) : Int) ∧ iv = .int .i64 i ∧ Below w.heap.size w wr) (fun _ i _ => n - (intOf i).toNat)
  case atStart => exact ⟨0, Nat.zero_le _, by simp, rfl, Below.refl _ _⟩
  case round =>
    obtain ⟨i, hi, rfl, rfl, hB⟩ := hrel
    by_cases hin : i < n
    · obtain ⟨b, off, rfl, hb, hc⟩ := HT.out (by omega)
      obtain ⟨K, hK⟩ : ∃ K, k + i * 11 = K := ⟨_, rfl⟩
      rw [hK]
      have k1 : 0 < K := by omega
      have k2 : K + 11 ≤ 100000000 := by omega
      have HK : Hid (k + i * 11 = K) := hK
      clear hK
      have i1 : (i : Int) < (n : Int) := by omega
      have hc' : ∀ j, j < 11 → w.cell? ⟨b, off + i * 11 + j, none⟩ = (pCells (mkP K))[j]? := fun j hj => by rw [← HK.out]; exact hc i hin j hj
      clear hc
      have C0 := hc' 0 (by omega)
      have C1 := hc' 1 (by omega)
      have C2 := hc' 2 (by omega)
      have C3 := hc' 3 (by omega)
      have C4 := hc' 4 (by omega)
      have C5 := hc' 5 (by omega)
      have C6 := hc' 6 (by omega)
      have C7 := hc' 7 (by omega)
      have C8 := hc' 8 (by omega)
      have C9 := hc' 9 (by omega)
      have C10 := hc' 10 (by omega)
      unfold mkP at C0 C1 C2 C3 C4 C5 C6 C7 C8 C9 C10
      simp only [List.getElem?_toArray, List.getElem?_cons_zero, List.getElem?_cons_succ, Nat.add_zero] at C0 C1 C2 C3 C4 C5 C6 C7 C8 C9 C10
      clear hc'
      have hd : ∀ o, wr.cell? ⟨b, o, none⟩ = w.cell? ⟨b, o, none⟩ := fun o => hB.cell (p := ⟨b, o, none⟩) hb
      have HT3 : Hid (∀ w, Calls Try.prog 67 #[.int .i64 ((K : Int) + 1 + 1 + 1)] w fun e w' => e = .returned (.string (mt (K + 3))) ∧ Below w.heap.size w w') := fun w => markText_calls (K + 3) w (by omega) (by omega)
      have HT8 : Hid (∀ w, Calls Try.prog 67 #[.int .i64 ((K : Int) + 1 + 1 + 1 + 1 + 1 + 1 + 1 + 1)] w fun e w' => e = .returned (.string (mt (K + 8))) ∧ Below w.heap.size w w') := fun w => markText_calls (K + 8) w (by omega) (by omega)
      generalize mt (K + 3) = s3 at HT3 C3
      generalize mt (K + 8) = s8 at HT8 C8
      have q2 := int_self (K + 2) (by omega)
      have q7 := int_self (K + 7) (by omega)
      rw [show ((K + 2 : Nat) : Int) = (K : Int) + 1 + 1 by omega] at q2
      rw [show ((K + 7 : Nat) : Int) = (K : Int) + 1 + 1 + 1 + 1 + 1 + 1 + 1 by omega] at q7
      have H3 : Hid (∀ u, Below w.heap.size w u → u.cell? ⟨b, off + i * 11 + 3, none⟩ = some (.string s3)) := fun u h => (h.cell (p := ⟨b, off + i * 11 + 3, none⟩) hb).trans C3
      have H8 : Hid (∀ u, Below w.heap.size w u → u.cell? ⟨b, off + i * 11 + 8, none⟩ = some (.string s8)) := fun u h => (h.cell (p := ⟨b, off + i * 11 + 8, none⟩) hb).trans C8
      have HB : Hid (Below w.heap.size w wr) := hB
      clear hB
      go_wp2_with fail
      go_region_held3 (fun w' => w'.cell? ⟨b, off + i * 11 + 3, none⟩ = some (.string s3)) (first | (with_reducible exact H3.out _ HB4.out) | (with_reducible exact H3.out _ HB.out) | (with_reducible exact H3.out _ HB.out.drew)) ((go_at_call 67; refine (HT3.out _).mono ?_; rintro e w4 ⟨rfl, hb4⟩; have HB4 : Hid (Below w.heap.size w w4) := (by first | exact below_call HB.out hb4 | exact below_call HB.out.drew hb4); clear HB hb4))
      have hd4 : ∀ o, w4.cell? ⟨b, o, none⟩ = w.cell? ⟨b, o, none⟩ := fun o => HB4.out.cell (p := ⟨b, o, none⟩) hb
      clear hd HT3
      go_wp2_with fail
      go_region_held3 (fun w' => w'.cell? ⟨b, off + i * 11 + 8, none⟩ = some (.string s8)) (first | (with_reducible exact H8.out _ HB5.out) | (with_reducible exact H8.out _ HB4.out) | (with_reducible exact H8.out _ HB4.out.drew)) ((go_at_call 67; refine (HT8.out _).mono ?_; rintro e w5 ⟨rfl, hb5⟩; have HB5 : Hid (Below w.heap.size w w5) := (by first | exact below_call HB4.out hb5 | exact below_call HB4.out.drew hb5); clear HB4 hb5))
      have hd5 : ∀ o, w5.cell? ⟨b, o, none⟩ = w.cell? ⟨b, o, none⟩ := fun o => HB5.out.cell (p := ⟨b, o, none⟩) hb
      clear hd4 HT8
      go_wp2_with fail
      go_roundw
      case rel => exact ⟨i + 1, by omega, by have := HK.out; rw [← this]; go_num, by go_num, HB5.out⟩
      case measure => simp [intOf]; omega
    · have : i = n := by omega
      subst this
      go_wp2_with fail
      go_ret
      exact ⟨rfl, hB⟩
end Go.Proofs.Ytfkpplgcakhpfab
