import Derived.Test.YtcpjnddkibbddaaGreatSpQ
/-! The specification's check of a unit: loops around a node. -/
namespace Go.Proofs.YtcpjnddkibbddaaGreat
open Go.RowKit
attribute [local go_sem] run_store_float
attribute [local go_sem ↓] Go.wp_at_zero Go.wp_at_succ

set_option maxRecDepth 100000 in
set_option maxHeartbeats 4000000 in
theorem l3inloop_calls (L : Nat) (d : FD) (x : FA) (P D t : Nat) (w : World) (ht : t < d.nn) (hT : TS L w d x P) (hd : FdOk d) :
    Calls Tryz.prog 50 #[fnV d x, treeV P D d.nn, .int .i64 t] w fun e w' => e = .returned (.bool (dB (InL d.nd d.nn t))) ∧ Below w.heap.size w w' := by
  have HT : Hid (TS L w d x P) := hT
  have HD : Hid (FdOk d) := hd
  clear hT hd
  have hnn := HD.out.nn
  obtain ⟨g0, hb0⟩ := IntsAt.at0 HT.out.par ht
  go_enter Tryz.func50, Tryz.ntmps50
  go_wp2_with fail
  clear g0
  go_loopw [7, 8] (fun bl up wr => ∃ (z : Nat), z < d.nn ∧ bl = .int .i64 z ∧ up = .int .i64 (parP d.nd d.nn z) ∧ Hid (InL d.nd d.nn t ↔ InL d.nd d.nn z) ∧ Hid (Below (bxW w d x P D).heap.size (bxW w d x P D) wr)) (fun bl _ _ => d.nn - (intOf bl).toNat)
  case atStart => exact ⟨t, ht, rfl, rfl, Iff.rfl, Below.refl _ _⟩
  case round =>
    obtain ⟨z, hz, rfl, rfl, HV, HB⟩ := hrel
    have HT2 : Hid (TS L wr d x P) := HT.out.below (bx_below HB.out)
    have hsz : w.heap.size + 1 < wr.heap.size := (bx_tree HB.out).lt
    by_cases hlast : z < d.nn - 1
    · obtain ⟨p, j, hpar, hlt, hkid, huniq⟩ := HD.out.tree.up hlast
      rw [hpar]
      have HU : Hid (KidAt d.nd d.nn p j z ∧ ∀ p' j', KidAt d.nd d.nn p' j' z → p' = p ∧ j' = j) := ⟨hkid, huniq⟩
      have hpn : p < d.nn := hkid.1
      have hjk : j < (d.nd p).kn := hkid.2.1
      have hkn := (HD.out.shf p hpn).kn
      clear hkid huniq hpar
      have f6 : wr.cell? ⟨w.heap.size, 6, none⟩ = some (.slice x.na d.nn x.nc) := (bx_fn HB.out).cell 6 rfl
      have f0 : wr.cell? ⟨w.heap.size + 1, 0, none⟩ = some (.slice (some ⟨P, 0, none⟩) d.nn d.nn) := (bx_tree HB.out).cell 0 rfl
      obtain ⟨p0, hpz⟩ := IntsAt.at0 HT2.out.par hpn
      obtain ⟨b, off, e0, _, hb, d0, d1, d2, d3, d4, d5, d6, d7⟩ := cells8 HT2.out.fn.2.2.1 hpn
      rw [e0] at f6
      obtain ⟨kk, hkk⟩ : ∃ kk, (d.nd p).kn = kk + 1 := ⟨(d.nd p).kn - 1, by omega⟩
      obtain ⟨b2, o2, e2, _, hb2, k0⟩ := cells1 (HT2.out.fn.2.2.2 p hpn).2 (show kk < (d.nd p).kn by omega)
      rw [e2, hkk] at d7
      have HK : Hid ((d.nd p).kn = kk + 1) := hkk
      have hkk2 : kk < 200 := by omega
      clear e0 e2
      by_cases hk : (d.nd p).k = 6 ∨ (d.nd p).k = 7 ∨ (d.nd p).k = 8
      · by_cases hj : j = kk
        · have qe : ((d.nd p).c kk == (z : Int)) = true := by
            have := HU.out.1.2.2
            rw [hj] at this
            simpa using this
          have hin : dB (InL d.nd d.nn t) = true := dB_true (HV.out.2 (.here z p j HU.out.1 ⟨hk, by omega⟩))
          have HIN : Hid (dB (InL d.nd d.nn t) = true) := hin
          clear hin hkk hj hjk hkn
          rcases hk with h7 | h7 | h7
          · have q6 : ((d.nd p).k == 6) = true := by rw [h7]; rfl
            clear h7
            go_wp2_with fail
            go_ret
            exact ⟨ret_bool HIN.out.symm, bx_below (below_a' HB.out _)⟩
          · have q6 : ((d.nd p).k == 6) = false := by rw [h7]; rfl
            have q7 : ((d.nd p).k == 7) = true := by rw [h7]; rfl
            clear h7
            go_wp2_with fail
            go_ret
            exact ⟨ret_bool HIN.out.symm, bx_below (below_a' HB.out _)⟩
          · have q6 : ((d.nd p).k == 6) = false := by rw [h7]; rfl
            have q7 : ((d.nd p).k == 7) = false := by rw [h7]; rfl
            have q8 : ((d.nd p).k == 8) = true := by rw [h7]; rfl
            clear h7
            go_wp2_with fail
            go_ret
            exact ⟨ret_bool HIN.out.symm, bx_below (below_a' HB.out _)⟩
        · have qe : ((d.nd p).c kk == (z : Int)) = false := by
            rw [beq_eq_false_iff_ne]
            intro h
            exact hj (HU.out.2 p kk ⟨hpn, by omega, h⟩).2.symm
          have HV2 : Hid (InL d.nd d.nn t ↔ InL d.nd d.nn p) := HV.out.trans ((InL.iff HD.out.tree HU.out.1).trans ⟨fun h => h.elim (fun h => absurd h.2 (by omega)) id, .inr⟩)
          clear hkk hj hjk hkn
          rcases hk with h7 | h7 | h7
          · have q6 : ((d.nd p).k == 6) = true := by rw [h7]; rfl
            clear h7
            go_wp2_with fail
            go_roundw
            case rel => exact ⟨p, hpn, rfl, rfl, HV2, below_a' HB.out _⟩
            case measure => simp [intOf]; omega
          · have q6 : ((d.nd p).k == 6) = false := by rw [h7]; rfl
            have q7 : ((d.nd p).k == 7) = true := by rw [h7]; rfl
            clear h7
            go_wp2_with fail
            go_roundw
            case rel => exact ⟨p, hpn, rfl, rfl, HV2, below_a' HB.out _⟩
            case measure => simp [intOf]; omega
          · have q6 : ((d.nd p).k == 6) = false := by rw [h7]; rfl
            have q7 : ((d.nd p).k == 7) = false := by rw [h7]; rfl
            have q8 : ((d.nd p).k == 8) = true := by rw [h7]; rfl
            clear h7
            go_wp2_with fail
            go_roundw
            case rel => exact ⟨p, hpn, rfl, rfl, HV2, below_a' HB.out _⟩
            case measure => simp [intOf]; omega
      · have q6 : ((d.nd p).k == 6) = false := by simp; omega
        have q7 : ((d.nd p).k == 7) = false := by simp; omega
        have q8 : ((d.nd p).k == 8) = false := by simp; omega
        have HV2 : Hid (InL d.nd d.nn t ↔ InL d.nd d.nn p) := HV.out.trans ((InL.iff HD.out.tree HU.out.1).trans ⟨fun h => h.elim (fun h => absurd h.1 hk) id, .inr⟩)
        clear hkk hk hjk hkn
        go_wp2_with fail
        go_roundw
        case rel => exact ⟨p, hpn, rfl, rfl, HV2, below_a' HB.out _⟩
        case measure => simp [intOf]; omega
    · have hz1 : z = d.nn - 1 := by omega
      have hroot : parP d.nd d.nn z = -1 := by rw [hz1]; exact HD.out.tree.root
      rw [hroot]
      clear hroot
      have hv2 : dB (InL d.nd d.nn t) = false := dB_false fun h => by
        have h2 := HV.out.1 h
        rw [hz1] at h2
        exact InL.root HD.out.tree h2
      have HV2 : Hid (dB (InL d.nd d.nn t) = false) := hv2
      clear hv2 hz1
      go_wp2_with fail
      go_ret
      exact ⟨ret_bool HV2.out.symm, bx_below HB.out⟩
end Go.Proofs.YtcpjnddkibbddaaGreat
