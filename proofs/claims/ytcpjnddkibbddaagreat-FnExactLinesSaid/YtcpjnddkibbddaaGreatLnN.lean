import Derived.Test.YtcpjnddkibbddaaGreatLnM
/-! Units marked by the laws: nodes, fns, the unit. -/
namespace Go.Proofs.YtcpjnddkibbddaaGreat
open Go.RowKit
attribute [local go_sem] run_store_float
attribute [local go_sem ↓] Go.wp_at_zero Go.wp_at_succ

theorem Mk.slice {L H : Nat} {w w' : World} (h : Mk L H w w') {k j : Nat} (hk : k < w.heap.size) {a : Option Addr} {n c : Nat} (hc : w.cell? ⟨k, j, none⟩ = some (.slice a n c)) : w'.cell? ⟨k, j, none⟩ = some (.slice a n c) := by
  obtain ⟨v', e, _, hs⟩ := h.cl k j _ hk hc
  rw [e, hs rfl]
theorem Mk.leaf {L H : Nat} {w w' : World} (h : Mk L H w w') {k j : Nat} (hk : k < w.heap.size) (hc : ∃ v, w.cell? ⟨k, j, none⟩ = some v ∧ ns v = true) : ∃ v, w'.cell? ⟨k, j, none⟩ = some v ∧ ns v = true := by
  obtain ⟨v, e, hv⟩ := hc
  obtain ⟨v', e', hv', _⟩ := h.cl k j _ hk e
  exact ⟨v', e', hv'.trans hv⟩
/-- a block that can be written into -/
def Blk (L H : Nat) (w : World) (b : Nat) : Prop := L ≤ b ∧ b < H ∧ H ≤ w.heap.size ∧ ∀ j, w.frozen? ⟨b, j, none⟩ = false
theorem Blk.mk {L H : Nat} {w w' : World} {b : Nat} (h : Blk L H w b) (hm : Mk L H w w') : Blk L H w' b := ⟨h.1, h.2.1, Nat.le_trans h.2.2.1 hm.b.size, fun j => (hm.fz b j (by have := h.2.1; have := h.2.2.1; omega)).trans (h.2.2.2 j)⟩
/-- node i of a row -/
structure NdR (L H : Nat) (w : World) (b i : Nat) (d : ND) : Prop where
  blk : Blk L H w b
  lf : ∀ j, j < 6 → ∃ v, w.cell? ⟨b, i * 8 + j, none⟩ = some v ∧ ns v = true
  rf : ∃ b1 c1, w.cell? ⟨b, i * 8 + 6, none⟩ = some (.slice (some ⟨b1, 0, none⟩) d.rn c1) ∧ LfR 1 L H w b1 d.rn
  kd : ∃ b1 c1, w.cell? ⟨b, i * 8 + 7, none⟩ = some (.slice (some ⟨b1, 0, none⟩) d.kn c1) ∧ LfR 1 L H w b1 d.kn
theorem NdR.mv {L H : Nat} {w w' : World} {b i : Nat} {d : ND} (h : NdR L H w b i d) (hm : Mk L H w w') : NdR L H w' b i d := by
  have hb : b < w.heap.size := by have := h.blk.2.1; have := h.blk.2.2.1; omega
  obtain ⟨b1, c1, e1, l1⟩ := h.rf
  obtain ⟨b2, c2, e2, l2⟩ := h.kd
  exact ⟨h.blk.mk hm, fun j hj => hm.leaf hb (h.lf j hj), ⟨b1, c1, hm.slice hb e1, l1.mk hm⟩, ⟨b2, c2, hm.slice hb e2, l2.mk hm⟩⟩
/-- fn i of a row -/
structure FnR (L H : Nat) (w : World) (b i : Nat) (d : FD) : Prop where
  blk : Blk L H w b
  lf : ∀ j, j < 4 → ∃ v, w.cell? ⟨b, i * 7 + j, none⟩ = some v ∧ ns v = true
  vs : ∃ b1 c1, w.cell? ⟨b, i * 7 + 4, none⟩ = some (.slice (some ⟨b1, 0, none⟩) d.vn c1) ∧ LfR 1 L H w b1 d.vn
  us : ∃ b1 c1, w.cell? ⟨b, i * 7 + 5, none⟩ = some (.slice (some ⟨b1, 0, none⟩) d.un c1) ∧ LfR 2 L H w b1 d.un
  nd : ∃ b1 c1, w.cell? ⟨b, i * 7 + 6, none⟩ = some (.slice (some ⟨b1, 0, none⟩) d.nn c1) ∧ ∀ m, m < d.nn → NdR L H w b1 m (d.nd m)
theorem FnR.mv {L H : Nat} {w w' : World} {b i : Nat} {d : FD} (h : FnR L H w b i d) (hm : Mk L H w w') : FnR L H w' b i d := by
  have hb : b < w.heap.size := by have := h.blk.2.1; have := h.blk.2.2.1; omega
  obtain ⟨b1, c1, e1, l1⟩ := h.vs
  obtain ⟨b2, c2, e2, l2⟩ := h.us
  obtain ⟨b3, c3, e3, l3⟩ := h.nd
  exact ⟨h.blk.mk hm, fun j hj => hm.leaf hb (h.lf j hj), ⟨b1, c1, hm.slice hb e1, l1.mk hm⟩, ⟨b2, c2, hm.slice hb e2, l2.mk hm⟩, ⟨b3, c3, hm.slice hb e3, fun m hq => (l3 m hq).mv hm⟩⟩
theorem NdR.put {L H : Nat} {a w : World} {b i : Nat} {d : ND} (h : NdR L H w b i d) (hm : Mk L H a w) (j : Nat) (hj : j < 6) {v : Value} (hv : ns v = true) : Mk L H a (w.setCell ⟨b, i * 8 + j, none⟩ v) := hm.put h.blk.1 h.blk.2.1 (h.lf j hj) hv
theorem FnR.put {L H : Nat} {a w : World} {b i : Nat} {d : FD} (h : FnR L H w b i d) (hm : Mk L H a w) (j : Nat) (hj : j < 4) {v : Value} (hv : ns v = true) : Mk L H a (w.setCell ⟨b, i * 7 + j, none⟩ v) := hm.put h.blk.1 h.blk.2.1 (h.lf j hj) hv
theorem NdR.set5 {L H : Nat} {a w : World} {b i : Nat} {d : ND} (h : NdR L H w b i d) (hm : Mk L H a w) {v0 v1 v2 v3 v4 : Value} (q0 : ns v0 = true) (q1 : ns v1 = true) (q2 : ns v2 = true) (q3 : ns v3 = true) (q4 : ns v4 = true) :
    Mk L H a (((((w.setCell ⟨b, i * 8, none⟩ v0).setCell ⟨b, i * 8 + 1, none⟩ v1).setCell ⟨b, i * 8 + 2, none⟩ v2).setCell ⟨b, i * 8 + 3, none⟩ v3).setCell ⟨b, i * 8 + 4, none⟩ v4) := by
  have m0 := h.put (Mk.refl L H w) 0 (by omega) q0
  have m1 := (h.mv m0).put m0 1 (by omega) q1
  have m2 := (h.mv m1).put m1 2 (by omega) q2
  have m3 := (h.mv m2).put m2 3 (by omega) q3
  have m4 := (h.mv m3).put m3 4 (by omega) q4
  exact hm.trans m4
theorem FnR.set3 {L H : Nat} {a w : World} {b i : Nat} {d : FD} (h : FnR L H w b i d) (hm : Mk L H a w) {v0 v1 v2 v3 : Value} (q0 : ns v0 = true) (q1 : ns v1 = true) (q2 : ns v2 = true) (q3 : ns v3 = true) :
    Mk L H a ((((w.setCell ⟨b, i * 7, none⟩ v0).setCell ⟨b, i * 7 + 1, none⟩ v1).setCell ⟨b, i * 7 + 2, none⟩ v2).setCell ⟨b, i * 7 + 3, none⟩ v3) := by
  have m0 := h.put (Mk.refl L H w) 0 (by omega) q0
  have m1 := (h.mv m0).put m0 1 (by omega) q1
  have m2 := (h.mv m1).put m1 2 (by omega) q2
  have m3 := (h.mv m2).put m2 3 (by omega) q3
  exact hm.trans m3

set_option maxRecDepth 100000 in
set_option maxHeartbeats 4000000 in
theorem markNodeS_calls (L H b n cap : Nat) (k : Int) (q : Nat → ND) (w : World) (hn : n ≤ 1048576) (hk : 0 < k) (hk2 : k < 5000000000000000000) (hq : ∀ i, i < n → (q i).sm) (hR : ∀ i, i < n → NdR L H w b i (q i)) :
    Calls Tryz.prog 41 #[.slice (some ⟨b, 0, none⟩) n cap, .int .i64 k] w fun e w' => (∃ k', e = .returned (.int .i64 k') ∧ 0 < k' ∧ k' ≤ k + (n : Int) * 2097158) ∧ Mk L H w w' := by
  have HR : Hid (∀ i, i < n → NdR L H w b i (q i)) := hR
  have HQ : Hid (∀ i, i < n → (q i).sm) := hq
  clear hR hq
  go_enter Tryz.func41, Tryz.ntmps41
  go_wp2_with fail
  go_loopw [1, 5] (fun kv i wr => ∃ (m : Nat) (z : Int), m ≤ n ∧ 0 < z ∧ z ≤ k + (m : Int) * 2097158 ∧ kv = .int .i64 z ∧ i = .int .i64 m ∧ Hid (Mk L H w wr)) (fun _ i _ => n - (intOf i).toNat)
  case atStart => exact ⟨0, k, Nat.zero_le _, hk, by omega, rfl, rfl, Mk.refl _ _ _⟩
  case round =>
    obtain ⟨m, z, hm, hz0, hz1, rfl, rfl, HM⟩ := hrel
    by_cases hmn : m < n
    · have HN : Hid (NdR L H wr b m (q m)) := (HR.out m hmn).mv HM.out
      have hrn := (HQ.out m hmn).rn
      have hkn := (HQ.out m hmn).kn
      have hfr := HN.out.blk.2.2.2
      obtain ⟨v0, g0, _⟩ := HN.out.lf 0 (by omega)
      obtain ⟨v1, g1, _⟩ := HN.out.lf 1 (by omega)
      obtain ⟨v2, g2, _⟩ := HN.out.lf 2 (by omega)
      obtain ⟨v3, g3, _⟩ := HN.out.lf 3 (by omega)
      obtain ⟨v4, g4, _⟩ := HN.out.lf 4 (by omega)
      rw [Nat.add_zero] at g0
      go_wp2_with (first | (go_at_call 38; refine (markText_any _ _ (by omega) (by omega)).mono ?_; rintro e w2 ⟨⟨s, rfl⟩, hb2⟩; have HM2 : Hid (Mk L H wr w2) := (HN.out.set5 (Mk.refl _ _ _) rfl rfl rfl rfl rfl).below hb2 (by have := HN.out.blk.1; have := HN.out.blk.2.1; have := HN.out.blk.2.2.1; simp; omega); have HN2 : Hid (NdR L H w2 b m (q m)) := HN.out.mv HM2.out; clear g0 g1 g2 g3 g4 hfr hb2; have hfr := HN2.out.blk.2.2.2; obtain ⟨v5, g5, _⟩ := HN2.out.lf 5 (by omega); obtain ⟨b1, c1, g6, l6⟩ := HN2.out.rf; have HM3 : Hid (Mk L H wr (w2.setCell ⟨b, m * 8 + 5, none⟩ (.string s))) := HN2.out.put HM2.out 5 (by omega) rfl; have HL6 : Hid (LfR 1 L H (w2.setCell ⟨b, m * 8 + 5, none⟩ (.string s)) b1 (q m).rn) := l6.mk (HN2.out.put (Mk.refl _ _ _) 5 (by omega) rfl); clear l6) | (go_at_call 11; refine (markIntS_calls L H b1 _ _ _ _ hrn (by omega) (by omega) HL6.out).mono ?_; rintro e w4 ⟨rfl, hm4⟩; have HM4 : Hid (Mk L H wr w4) := HM3.out.trans hm4; have HN4 : Hid (NdR L H w4 b m (q m)) := HN.out.mv HM4.out; clear g5 g6 HL6 hm4; obtain ⟨b2, c2, g7, l7⟩ := HN4.out.kd; have HL7 : Hid (LfR 1 L H w4 b2 (q m).kn) := l7; clear l7) | (go_at_call 11; refine (markIntS_calls L H b2 _ _ _ _ hkn (by omega) (by omega) HL7.out).mono ?_; rintro e w5 ⟨rfl, hm5⟩; have HM5 : Hid (Mk L H wr w5) := HM4.out.trans hm5; clear g7 HL7 hm5))
      go_roundw
      case rel => exact ⟨m + 1, _, by omega, by omega, by omega, rfl, by go_num, HM.out.trans HM5.out⟩
      case measure => simp [intOf]; omega
    · obtain rfl : m = n := by omega
      go_wp2_with fail
      go_ret
      exact ⟨⟨_, rfl, hz0, hz1⟩, HM.out⟩

end Go.Proofs.YtcpjnddkibbddaaGreat
