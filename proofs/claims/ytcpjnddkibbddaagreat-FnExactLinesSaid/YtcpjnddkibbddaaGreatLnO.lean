import Derived.Test.YtcpjnddkibbddaaGreatLnN
/-! Units marked by the laws: fns, the unit. -/
namespace Go.Proofs.YtcpjnddkibbddaaGreat
open Go.RowKit
attribute [local go_sem] run_store_float
attribute [local go_sem ↓] Go.wp_at_zero Go.wp_at_succ

set_option maxRecDepth 100000 in
set_option maxHeartbeats 4000000 in
theorem markFnS_calls (L H b n cap : Nat) (k : Int) (q : Nat → FD) (w : World) (hn : n ≤ 1048576) (hk : 0 < k) (hk2 : k < 1000) (hq : ∀ i, i < n → (q i).sm) (hR : ∀ i, i < n → FnR L H w b i (q i)) :
    Calls Tryz.prog 23 #[.slice (some ⟨b, 0, none⟩) n cap, .int .i64 k] w fun e w' => (∃ k', e = .returned (.int .i64 k') ∧ 0 < k') ∧ Mk L H w w' := by
  have HR : Hid (∀ i, i < n → FnR L H w b i (q i)) := hR
  have HQ : Hid (∀ i, i < n → (q i).sm) := hq
  clear hR hq
  go_enter Tryz.func23, Tryz.ntmps23
  go_wp2_with fail
  go_loopw [1, 5] (fun kv i wr => ∃ (m : Nat) (z : Int), m ≤ n ∧ 0 < z ∧ z ≤ k + (m : Int) * 2199032692740 ∧ kv = .int .i64 z ∧ i = .int .i64 m ∧ Hid (Mk L H w wr)) (fun _ i _ => n - (intOf i).toNat)
  case atStart => exact ⟨0, k, Nat.zero_le _, hk, by omega, rfl, rfl, Mk.refl _ _ _⟩
  case round =>
    obtain ⟨m, z, hm, hz0, hz1, rfl, rfl, HM⟩ := hrel
    by_cases hmn : m < n
    · have HN : Hid (FnR L H wr b m (q m)) := (HR.out m hmn).mv HM.out
      have hvn := (HQ.out m hmn).vn
      have hun := (HQ.out m hmn).un
      have hnn := (HQ.out m hmn).nn
      have HND : Hid (∀ i, i < (q m).nn → ((q m).nd i).sm) := (HQ.out m hmn).nd
      have hLs : L ≤ wr.heap.size := by have := HN.out.blk.1; have := HN.out.blk.2.1; have := HN.out.blk.2.2.1; omega
      go_wp2_with (first
        | (go_at_call 38; refine (markText_any _ _ (by omega) (by omega)).mono ?_; rintro e w2 ⟨⟨s, rfl⟩, hb2⟩; have HM2 : Hid (Mk L H wr w2) := (Mk.refl _ _ _).below hb2 hLs; have HN2 : Hid (FnR L H w2 b m (q m)) := HN.out.mv HM2.out; clear hb2; have hfr := HN2.out.blk.2.2.2; obtain ⟨v0, g0, _⟩ := HN2.out.lf 0 (by omega); obtain ⟨v1, g1, _⟩ := HN2.out.lf 1 (by omega); obtain ⟨v2, g2, _⟩ := HN2.out.lf 2 (by omega); obtain ⟨v3, g3, _⟩ := HN2.out.lf 3 (by omega); rw [Nat.add_zero] at g0; obtain ⟨b1, c1, g4, l4⟩ := HN2.out.vs; have HL4 : Hid (LfR 1 L H w2 b1 (q m).vn) := l4; clear l4)
        | (go_at_call 39; refine (markStringS_calls L H b1 _ _ _ _ hvn (by omega) (by omega) (HL4.out.mk (HN2.out.set3 (Mk.refl _ _ _) rfl rfl rfl rfl))).mono ?_; rintro e w4 ⟨rfl, hm4⟩; have HM4 : Hid (Mk L H wr w4) := (HN2.out.set3 HM2.out rfl rfl rfl rfl).trans hm4; have HN4 : Hid (FnR L H w4 b m (q m)) := HN.out.mv HM4.out; clear g0 g1 g2 g3 g4 hfr hm4 HL4; obtain ⟨b2, c2, g5, l5⟩ := HN4.out.us; have HL5 : Hid (LfR 2 L H w4 b2 (q m).un) := l5; clear l5)
        | (go_at_call 40; refine (markUpS_calls L H b2 _ _ _ _ hun (by omega) (by omega) HL5.out).mono ?_; rintro e w5 ⟨rfl, hm5⟩; have HM5 : Hid (Mk L H wr w5) := HM4.out.trans hm5; have HN5 : Hid (FnR L H w5 b m (q m)) := HN.out.mv HM5.out; clear g5 HL5 hm5; obtain ⟨b3, c3, g6, l6⟩ := HN5.out.nd; have HL6 : Hid (∀ i, i < (q m).nn → NdR L H w5 b3 i ((q m).nd i)) := l6; clear l6)
        | (go_at_call 41; refine (markNodeS_calls L H b3 _ _ _ (q m).nd _ hnn (by omega) (by omega) HND.out HL6.out).mono ?_; rintro e w6 ⟨⟨z6, rfl, h60, h61⟩, hm6⟩; have HM6 : Hid (Mk L H wr w6) := HM5.out.trans hm6; clear g6 HL6 hm6))
      go_roundw
      case rel => exact ⟨m + 1, z6, by omega, h60, by omega, rfl, by go_num, HM.out.trans HM6.out⟩
      case measure => simp [intOf]; omega
    · obtain rfl : m = n := by omega
      go_wp2_with fail
      go_ret
      exact ⟨⟨_, rfl, hz0⟩, HM.out⟩

set_option maxRecDepth 100000 in
set_option maxHeartbeats 4000000 in
theorem markUnit_calls (L H b cap : Nat) (k : Int) (u : UD) (w : World) (hs : u.sm) (hk : 0 < k) (hk2 : k < 1000) (hL : L ≤ w.heap.size) (hR : ∀ i, i < u.n → FnR L H w b i (u.fn i)) :
    Calls Tryz.prog 10 #[unV u (some ⟨b, 0, none⟩) cap, .int .i64 k] w fun e w' => (∃ k', e = .returned (.int .i64 k') ∧ 0 < k') ∧ Mk L H w w' := by
  have HR : Hid (∀ i, i < u.n → FnR L H w b i (u.fn i)) := hR
  have HS : Hid u.sm := hs
  have HL : Hid (L ≤ w.heap.size) := hL
  clear hR hs hL
  go_enter Tryz.func10, Tryz.ntmps10
  go_wp2_with fail
  refine (markFnS_calls L H b _ _ _ u.fn _ HS.out.n hk hk2 HS.out.fn (fun i hi => (HR.out i hi).mv ((Mk.refl _ _ _).below (below_alloc _ _) HL.out))).mono ?_
  rintro e w2 ⟨⟨k', rfl, h0⟩, hm2⟩
  have HM : Hid (Mk L H w w2) := ((Mk.refl _ _ _).below (below_alloc _ _) HL.out).trans hm2
  clear hm2
  go_wp2_with fail
  go_ret
  exact ⟨⟨k', rfl, h0⟩, HM.out⟩
theorem flat_get {K : Nat} {L : Nat} {w : World} {b n : Nat} {q : Nat → Array Value} (h : RowN K L w (some ⟨b, 0, none⟩) n q) {i : Nat} (hi : i < n) : L ≤ b ∧ b < w.heap.size ∧ ∀ j, j < K → w.cell? ⟨b, i * K + j, none⟩ = (q i)[j]? := by
  obtain ⟨b', off, e, h1, h2, h3⟩ := h (by omega)
  cases e
  exact ⟨h1, h2, fun j hj => by rw [← h3 i hi j hj, Nat.zero_add]⟩
/-- a leaf row of the copies -/
theorem LfR.of {K L : Nat} {w : World} {b n : Nat} {q : Nat → Array Value} (hK : 0 < K) (h : RowN K L w (some ⟨b, 0, none⟩) n q) (hz : Zf w b) (hq : ∀ i, i < n → ∀ j, j < K → ∃ v, (q i)[j]? = some v ∧ ns v = true) : LfR K L w.heap.size w b n := fun hn => by
  obtain ⟨h1, h2, _⟩ := flat_get h hn
  refine ⟨h1, h2, Nat.le_refl _, hz.2, fun j hj => ?_⟩
  have hi : j / K < n := (Nat.div_lt_iff_lt_mul hK).2 hj
  have hm := Nat.mod_lt j hK
  obtain ⟨v, e, hv⟩ := hq (j / K) hi (j % K) hm
  have := (flat_get h hi).2.2 (j % K) hm
  rw [Nat.div_add_mod' j K] at this
  exact ⟨v, this.trans e, hv⟩
theorem NdR.of {L : Nat} {w : World} {b n : Nat} {nd : Nat → ND} {nas : Nat → NA} (h : NodesAt L w n nd (some ⟨b, 0, none⟩) nas) (hz : Zf w b) (hy : ∀ i, i < n → NodeZ w (nas i)) : ∀ i, i < n → NdR L w.heap.size w b i (nd i) := fun i hi => by
  obtain ⟨h1, h2, h3⟩ := flat_get h.1 hi
  obtain ⟨b1, b2, e1, e2, z1, z2⟩ := hy i hi
  have r1 := (h.2 i hi).1
  have r2 := (h.2 i hi).2
  rw [e1] at r1
  rw [e2] at r2
  have c6 := h3 6 (by omega)
  have c7 := h3 7 (by omega)
  have f6 : (nodeC (nd i) (nas i))[6]? = some (.slice (nas i).ra (nd i).rn (nas i).rc) := rfl
  have f7 : (nodeC (nd i) (nas i))[7]? = some (.slice (nas i).ka (nd i).kn (nas i).kc) := rfl
  rw [f6, e1] at c6
  rw [f7, e2] at c7
  refine ⟨⟨h1, h2, Nat.le_refl _, hz.2⟩, fun j hj => ?_, ⟨b1, _, c6, LfR.of (by omega) r1 z1 (fun i _ j hj => ?_)⟩, ⟨b2, _, c7, LfR.of (by omega) r2 z2 (fun i _ j hj => ?_)⟩⟩
  · rw [h3 j (by omega)]
    match j, hj with
    | 0, _ => exact ⟨_, rfl, rfl⟩
    | 1, _ => exact ⟨_, rfl, rfl⟩
    | 2, _ => exact ⟨_, rfl, rfl⟩
    | 3, _ => exact ⟨_, rfl, rfl⟩
    | 4, _ => exact ⟨_, rfl, rfl⟩
    | 5, _ => exact ⟨_, rfl, rfl⟩
  · obtain rfl : j = 0 := by omega
    exact ⟨_, rfl, rfl⟩
  · obtain rfl : j = 0 := by omega
    exact ⟨_, rfl, rfl⟩
theorem FnR.of {L : Nat} {w : World} {b n : Nat} {fn : Nat → FD} {fas : Nat → FA} (h : FnsAt L w n fn (some ⟨b, 0, none⟩) fas) (hz : Zf w b) (hy : ∀ i, i < n → FnZ w (fn i) (fas i)) : ∀ i, i < n → FnR L w.heap.size w b i (fn i) := fun i hi => by
  obtain ⟨h1, h2, h3⟩ := flat_get h.1 hi
  obtain ⟨b1, b2, b3, e1, e2, e3, z1, z2, z3, z4⟩ := hy i hi
  have r1 := (h.2 i hi).1
  have r2 := (h.2 i hi).2.1
  have r3 := (h.2 i hi).2.2
  rw [e1] at r1
  rw [e2] at r2
  rw [e3] at r3
  have c4 := h3 4 (by omega)
  have c5 := h3 5 (by omega)
  have c6 := h3 6 (by omega)
  have f4 : (fnC (fn i) (fas i))[4]? = some (.slice (fas i).va (fn i).vn (fas i).vc) := rfl
  have f5 : (fnC (fn i) (fas i))[5]? = some (.slice (fas i).ua (fn i).un (fas i).uc) := rfl
  have f6 : (fnC (fn i) (fas i))[6]? = some (.slice (fas i).na (fn i).nn (fas i).nc) := rfl
  rw [f4, e1] at c4
  rw [f5, e2] at c5
  rw [f6, e3] at c6
  refine ⟨⟨h1, h2, Nat.le_refl _, hz.2⟩, fun j hj => ?_, ⟨b1, _, c4, LfR.of (by omega) r1 z1 (fun i _ j hj => ?_)⟩, ⟨b2, _, c5, LfR.of (by omega) r2 z2 (fun i _ j hj => ?_)⟩, ⟨b3, _, c6, NdR.of r3 z3 z4⟩⟩
  · rw [h3 j (by omega)]
    match j, hj with
    | 0, _ => exact ⟨_, rfl, rfl⟩
    | 1, _ => exact ⟨_, rfl, rfl⟩
    | 2, _ => exact ⟨_, rfl, rfl⟩
    | 3, _ => exact ⟨_, rfl, rfl⟩
  · obtain rfl : j = 0 := by omega
    exact ⟨_, rfl, rfl⟩
  · match j, hj with
    | 0, _ => exact ⟨_, rfl, rfl⟩
    | 1, _ => exact ⟨_, rfl, rfl⟩
end Go.Proofs.YtcpjnddkibbddaaGreat
