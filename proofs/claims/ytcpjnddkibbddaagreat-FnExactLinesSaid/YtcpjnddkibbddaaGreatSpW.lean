import Derived.Test.YtcpjnddkibbddaaGreatImO
/-! The specification's check of a unit: what a fn closes over. -/
namespace Go.Proofs.YtcpjnddkibbddaaGreat
open Go.RowKit
attribute [local go_sem] run_store_float
attribute [local go_sem ↓] Go.wp_at_zero Go.wp_at_succ

abbrev bx2W (w : World) (u : UD) (a : Option Addr) (cap P D n : Nat) : World := (w.alloc (.cells #[.slice a u.n cap] 30)).alloc (.cells (treeC P D n) 79)
theorem bx2_below {w wr : World} {u : UD} {a : Option Addr} {cap P D n : Nat} (h : Below (bx2W w u a cap P D n).heap.size (bx2W w u a cap P D n) wr) : Below w.heap.size w wr := below_call (below_alloc2 w _ _) h
theorem bx2_u {w wr : World} {u : UD} {a : Option Addr} {cap P D n : Nat} (h : Below (bx2W w u a cap P D n).heap.size (bx2W w u a cap P D n) wr) : Has wr w.heap.size #[.slice a u.n cap] := ((Has.new w _ _).alloc _).call h
theorem bx2_tree {w wr : World} {u : UD} {a : Option Addr} {cap P D n : Nat} (h : Below (bx2W w u a cap P D n).heap.size (bx2W w u a cap P D n) wr) : Has wr (w.heap.size + 1) (treeC P D n) := by
  have := (Has.new (w.alloc (.cells #[.slice a u.n cap] 30)) (treeC P D n) 79).call h
  simpa using this
theorem below_dd {B : Nat} {a w w' : World} (h : Below B a w) (e : w' = w.drew := by rfl) : Below B a w' := by rw [e]; exact h.drew
/-- what one step reads -/
abbrev USr (B W b off f cap un P D : Nat) (u : UD) (fas : Nat → FA) (ix : Int) (w' : World) : Prop := w'.cell? ⟨W, 1, none⟩ = some (.int .i64 ix) ∧ w'.cell? ⟨B, 0, none⟩ = some (.slice (some ⟨b, off, none⟩) un cap) ∧ w'.cell? ⟨b, off + f * 7, none⟩ = some (.string (u.fn f).name) ∧ w'.cell? ⟨b, off + f * 7 + 1, none⟩ = some (.int .i64 (u.fn f).line) ∧ w'.cell? ⟨b, off + f * 7 + 2, none⟩ = some (.int .i64 (u.fn f).params) ∧ w'.cell? ⟨b, off + f * 7 + 3, none⟩ = some (.bool (u.fn f).rest) ∧ w'.cell? ⟨b, off + f * 7 + 4, none⟩ = some (.slice (fas f).va (u.fn f).vn (fas f).vc) ∧ w'.cell? ⟨b, off + f * 7 + 5, none⟩ = some (.slice (fas f).ua (u.fn f).un (fas f).uc) ∧ w'.cell? ⟨b, off + f * 7 + 6, none⟩ = some (.slice (fas f).na (u.fn f).nn (fas f).nc) ∧ w'.cell? ⟨B + 1, 0, none⟩ = some (.slice (some ⟨P, 0, none⟩) (u.fn f).nn (u.fn f).nn) ∧ w'.cell? ⟨B + 1, 1, none⟩ = some (.slice (some ⟨D, 0, none⟩) (u.fn f).nn (u.fn f).nn)

set_option maxRecDepth 100000 in
set_option maxHeartbeats 8000000 in
theorem l3ups_calls (L : Nat) (u : UD) (a : Option Addr) (cap : Nat) (fas : Nat → FA) (f t g P D : Nat) (w : World) (hf : f < u.n) (hg : g < u.n) (ht : t < (u.fn f).nn) (hs : u.sm) (hT : FnsAt L w u.n u.fn a fas) (hP : IntsAt L w (some ⟨P, 0, none⟩) (u.fn f).nn (parP (u.fn f).nd (u.fn f).nn)) (hd : FdOk (u.fn f)) :
    Calls Tryz.prog 51 #[unV u a cap, .int .i64 f, treeV P D (u.fn f).nn, .int .i64 t, .int .i64 g] w fun e w' => e = .returned (.bool (dB (UpsOk u f t g))) ∧ Below w.heap.size w w' := by
  have HT : Hid (FnsAt L w u.n u.fn a fas) := hT
  have HP : Hid (IntsAt L w (some ⟨P, 0, none⟩) (u.fn f).nn (parP (u.fn f).nd (u.fn f).nn)) := hP
  have HD : Hid (FdOk (u.fn f)) := hd
  have HS : Hid u.sm := hs
  have hun := hs.n
  have hgu := (hs.fn g hg).un
  have hfv := (hs.fn f hf).vn
  have hfu := (hs.fn f hf).un
  obtain ⟨b, off, e0, _, hb, _, _, _, _, _, d5, _⟩ := cells7 hT.1 hg
  subst e0
  clear hT hP hd hs
  go_enter Tryz.func51, Tryz.ntmps51
  go_wp2_with fail
  clear d5
  go_loopw [20] (fun i wr => ∃ (k : Nat), k ≤ (u.fn g).un ∧ i = .int .i64 k ∧ Hid (∀ i, i < k → ((((u.fn g).u i).loc = true → InR ((u.fn g).u i).ix (u.fn f).vn ∧ Scoped (u.fn f) t ((u.fn g).u i).ix) ∧ (((u.fn g).u i).loc = false → InR ((u.fn g).u i).ix (u.fn f).un))) ∧ Hid (Below (bx2W w u (some ⟨b, off, none⟩) cap P D (u.fn f).nn).heap.size (bx2W w u (some ⟨b, off, none⟩) cap P D (u.fn f).nn) wr)) (fun i _ => (u.fn g).un - (intOf i).toNat)
  case atStart => exact ⟨0, Nat.zero_le _, rfl, fun f' hf' => by omega, Below.refl _ _⟩
  case round =>
    obtain ⟨k, hk, rfl, HK, HB⟩ := hrel
    by_cases hkn : k < (u.fn g).un
    · have HTr : Hid (FnsAt L wr u.n u.fn (some ⟨b, off, none⟩) fas) := HT.out.below (bx2_below HB.out)
      obtain ⟨b2, o2, e2, _, hb2, l0, l1⟩ := cells2 (HTr.out.2 g hg).2.1 hkn
      rw [e2]
      clear e2
      rcases hu : (u.fn g).u k with ⟨lc, ix⟩
      simp only [hu] at l0 l1
      have HU : Hid ((u.fn g).u k = ⟨lc, ix⟩) := hu
      clear hu
      have hsz : w.heap.size + 1 < wr.heap.size := (bx2_tree HB.out).lt
      have hsz2 : w.heap.size < wr.heap.size := by omega
      obtain ⟨b', off', e0, _, hb3, d0, d1, d2, d3, d4, d5, d6⟩ := cells7 HTr.out.1 hf
      obtain ⟨rfl, rfl⟩ : b = b' ∧ off = off' := by simpa using e0
      clear e0
      have i1 : (f : Int) < (u.n : Int) := by omega
      have i2 : (0 : Int) ≤ (f : Int) := by omega
      cases lc
      · have HB1 : Hid (Below (bx2W w u (some ⟨b, off, none⟩) cap P D (u.fn f).nn).heap.size (bx2W w u (some ⟨b, off, none⟩) cap P D (u.fn f).nn) (wr.alloc (.cells (upC ⟨false, ix⟩) 114))) := below_a' HB.out _
        have HBw : Hid (Below w.heap.size w (wr.alloc (.cells (upC ⟨false, ix⟩) 114))) := bx2_below HB1.out
        have HTu : Hid (FnsAt L (wr.alloc (.cells (upC ⟨false, ix⟩) 114)) u.n u.fn (some ⟨b, off, none⟩) fas) := HT.out.below HBw.out
        have HPu : Hid (TS L (wr.alloc (.cells (upC ⟨false, ix⟩) 114)) (u.fn f) (fas f) P) := ⟨HTu.out.2 f hf, RowN.below HP.out HBw.out⟩
        have HUS : Hid (∀ W, Below (wr.alloc (.cells (upC ⟨false, ix⟩) 114)).heap.size (wr.alloc (.cells (upC ⟨false, ix⟩) 114)) W → USr w.heap.size wr.heap.size b off f cap u.n P D u fas ix W) := fun W hW => by
          have hw : Below wr.heap.size wr W := below_call (below_alloc _ _) hW
          have hB := below_call HB1.out hW
          exact ⟨(Has.made hW).cell 1 rfl, (bx2_u hB).cell 0 rfl, cell_later hw d0, cell_later hw d1, cell_later hw d2, cell_later hw d3, cell_later hw d4, cell_later hw d5, cell_later hw d6, (bx2_tree hB).cell 0 rfl, (bx2_tree hB).cell 1 rfl⟩
        by_cases c1 : ix < 0
        · have he : dB (UpsOk u f t g) = false := dB_false fun h => by
            have := (h k hkn).2 (by rw [HU.out])
            rw [HU.out] at this
            have := this.1
            simp only at this
            omega
          have HE : Hid (dB (UpsOk u f t g) = false) := he
          clear he
          have q1 : decide (ix < 0) = true := by simpa using c1
          go_wp2_with fail
          go_quiet ((fail))
          go_wp2_with fail
          go_ret
          exact ⟨ret_bool HE.out.symm, below_dN HBw.out _⟩
        by_cases c2 : ((u.fn f).un : Int) ≤ ix
        · have he : dB (UpsOk u f t g) = false := dB_false fun h => by
            have := (h k hkn).2 (by rw [HU.out])
            rw [HU.out] at this
            have := this.2
            simp only at this
            omega
          have HE : Hid (dB (UpsOk u f t g) = false) := he
          have q1 : decide (ix < 0) = false := by simpa using c1
          have q2 : decide (((u.fn f).un : Int) ≤ ix) = true := by simpa using c2
          clear he
          go_wp2_with fail
          go_region_held3 (fun w' => w'.cell? ⟨wr.heap.size, 1, none⟩ = some (.int .i64 ix) ∧ w'.cell? ⟨w.heap.size, 0, none⟩ = some (.slice (some ⟨b, off, none⟩) u.n cap) ∧ w'.cell? ⟨b, off + f * 7, none⟩ = some (.string (u.fn f).name) ∧ w'.cell? ⟨b, off + f * 7 + 1, none⟩ = some (.int .i64 (u.fn f).line) ∧ w'.cell? ⟨b, off + f * 7 + 2, none⟩ = some (.int .i64 (u.fn f).params) ∧ w'.cell? ⟨b, off + f * 7 + 3, none⟩ = some (.bool (u.fn f).rest) ∧ w'.cell? ⟨b, off + f * 7 + 4, none⟩ = some (.slice (fas f).va (u.fn f).vn (fas f).vc) ∧ w'.cell? ⟨b, off + f * 7 + 5, none⟩ = some (.slice (fas f).ua (u.fn f).un (fas f).uc) ∧ w'.cell? ⟨b, off + f * 7 + 6, none⟩ = some (.slice (fas f).na (u.fn f).nn (fas f).nc) ∧ w'.cell? ⟨w.heap.size + 1, 0, none⟩ = some (.slice (some ⟨P, 0, none⟩) (u.fn f).nn (u.fn f).nn) ∧ w'.cell? ⟨w.heap.size + 1, 1, none⟩ = some (.slice (some ⟨D, 0, none⟩) (u.fn f).nn (u.fn f).nn)) (first | (with_reducible exact HUS.out _ (Below.refl _ _)) | (with_reducible exact HUS.out _ (Below.refl _ _).drew)) (fail)
          go_wp2_with fail
          go_ret
          exact ⟨ret_bool HE.out.symm, below_dd HBw.out⟩
        · have HG : Hid (((((u.fn g).u k).loc = true → InR ((u.fn g).u k).ix (u.fn f).vn ∧ Scoped (u.fn f) t ((u.fn g).u k).ix) ∧ (((u.fn g).u k).loc = false → InR ((u.fn g).u k).ix (u.fn f).un))) := by
            show _ ∧ _
            rw [HU.out]
            exact ⟨fun h => Bool.noConfusion h, fun _ => ⟨by simp only; omega, by simp only; omega⟩⟩
          have q1 : decide (ix < 0) = false := by simpa using c1
          have q2 : decide (((u.fn f).un : Int) ≤ ix) = false := by simpa using c2
          go_wp2_with fail
          go_region_held3 (fun w' => w'.cell? ⟨wr.heap.size, 1, none⟩ = some (.int .i64 ix) ∧ w'.cell? ⟨w.heap.size, 0, none⟩ = some (.slice (some ⟨b, off, none⟩) u.n cap) ∧ w'.cell? ⟨b, off + f * 7, none⟩ = some (.string (u.fn f).name) ∧ w'.cell? ⟨b, off + f * 7 + 1, none⟩ = some (.int .i64 (u.fn f).line) ∧ w'.cell? ⟨b, off + f * 7 + 2, none⟩ = some (.int .i64 (u.fn f).params) ∧ w'.cell? ⟨b, off + f * 7 + 3, none⟩ = some (.bool (u.fn f).rest) ∧ w'.cell? ⟨b, off + f * 7 + 4, none⟩ = some (.slice (fas f).va (u.fn f).vn (fas f).vc) ∧ w'.cell? ⟨b, off + f * 7 + 5, none⟩ = some (.slice (fas f).ua (u.fn f).un (fas f).uc) ∧ w'.cell? ⟨b, off + f * 7 + 6, none⟩ = some (.slice (fas f).na (u.fn f).nn (fas f).nc) ∧ w'.cell? ⟨w.heap.size + 1, 0, none⟩ = some (.slice (some ⟨P, 0, none⟩) (u.fn f).nn (u.fn f).nn) ∧ w'.cell? ⟨w.heap.size + 1, 1, none⟩ = some (.slice (some ⟨D, 0, none⟩) (u.fn f).nn (u.fn f).nn)) (first | (with_reducible exact HUS.out _ (Below.refl _ _)) | (with_reducible exact HUS.out _ (Below.refl _ _).drew)) (fail)
          go_wp2_with fail
          go_roundw
          case rel => exact ⟨k + 1, by omega, by go_num, fun j hj => by
            by_cases e : j = k
            · subst e; exact HG.out
            · exact HK.out j (by omega), below_dd HB1.out⟩
          case measure => simp [intOf]; omega
      · have HB1 : Hid (Below (bx2W w u (some ⟨b, off, none⟩) cap P D (u.fn f).nn).heap.size (bx2W w u (some ⟨b, off, none⟩) cap P D (u.fn f).nn) (wr.alloc (.cells (upC ⟨true, ix⟩) 114))) := below_a' HB.out _
        have HBw : Hid (Below w.heap.size w (wr.alloc (.cells (upC ⟨true, ix⟩) 114))) := bx2_below HB1.out
        have HTu : Hid (FnsAt L (wr.alloc (.cells (upC ⟨true, ix⟩) 114)) u.n u.fn (some ⟨b, off, none⟩) fas) := HT.out.below HBw.out
        have HPu : Hid (TS L (wr.alloc (.cells (upC ⟨true, ix⟩) 114)) (u.fn f) (fas f) P) := ⟨HTu.out.2 f hf, RowN.below HP.out HBw.out⟩
        have HUS : Hid (∀ W, Below (wr.alloc (.cells (upC ⟨true, ix⟩) 114)).heap.size (wr.alloc (.cells (upC ⟨true, ix⟩) 114)) W → USr w.heap.size wr.heap.size b off f cap u.n P D u fas ix W) := fun W hW => by
          have hw : Below wr.heap.size wr W := below_call (below_alloc _ _) hW
          have hB := below_call HB1.out hW
          exact ⟨(Has.made hW).cell 1 rfl, (bx2_u hB).cell 0 rfl, cell_later hw d0, cell_later hw d1, cell_later hw d2, cell_later hw d3, cell_later hw d4, cell_later hw d5, cell_later hw d6, (bx2_tree hB).cell 0 rfl, (bx2_tree hB).cell 1 rfl⟩
        by_cases c1 : ix < 0
        · have he : dB (UpsOk u f t g) = false := dB_false fun h => by
            have := (h k hkn).1 (by rw [HU.out])
            rw [HU.out] at this
            have := this.1.1
            simp only at this
            omega
          have HE : Hid (dB (UpsOk u f t g) = false) := he
          clear he
          have q1 : decide (ix < 0) = true := by simpa using c1
          go_wp2_with fail
          go_quiet ((fail))
          go_wp2_with fail
          go_ret
          exact ⟨ret_bool HE.out.symm, below_dN HBw.out _⟩
        by_cases c2 : ((u.fn f).vn : Int) ≤ ix
        · have he : dB (UpsOk u f t g) = false := dB_false fun h => by
            have := (h k hkn).1 (by rw [HU.out])
            rw [HU.out] at this
            have := this.1.2
            simp only at this
            omega
          have HE : Hid (dB (UpsOk u f t g) = false) := he
          have q1 : decide (ix < 0) = false := by simpa using c1
          have q2 : decide (((u.fn f).vn : Int) ≤ ix) = true := by simpa using c2
          have n0 : wr.cell? ⟨w.heap.size, 0, none⟩ = some (.slice (some ⟨b, off, none⟩) u.n cap) := (bx2_u HB.out).cell 0 rfl
          clear he
          go_wp2_with fail
          go_quiet ((fail))
          go_wp2_with fail
          go_ret
          exact ⟨ret_bool HE.out.symm, below_dN HBw.out _⟩
        by_cases hsco : Scoped (u.fn f) t ix
        · have HG : Hid (((((u.fn g).u k).loc = true → InR ((u.fn g).u k).ix (u.fn f).vn ∧ Scoped (u.fn f) t ((u.fn g).u k).ix) ∧ (((u.fn g).u k).loc = false → InR ((u.fn g).u k).ix (u.fn f).un))) := by
            show _ ∧ _
            rw [HU.out]
            exact ⟨fun _ => ⟨⟨by simp only; omega, by simp only; omega⟩, hsco⟩, fun h => Bool.noConfusion h⟩
          have hsc : dB (Scoped (u.fn f) t ix) = true := dB_true hsco
          have q1 : decide (ix < 0) = false := by simpa using c1
          have q2 : decide (((u.fn f).vn : Int) ≤ ix) = false := by simpa using c2
          clear hsco
          go_wp2_with fail
          go_region_held3 (fun w' => w'.cell? ⟨wr.heap.size, 1, none⟩ = some (.int .i64 ix) ∧ w'.cell? ⟨w.heap.size, 0, none⟩ = some (.slice (some ⟨b, off, none⟩) u.n cap) ∧ w'.cell? ⟨b, off + f * 7, none⟩ = some (.string (u.fn f).name) ∧ w'.cell? ⟨b, off + f * 7 + 1, none⟩ = some (.int .i64 (u.fn f).line) ∧ w'.cell? ⟨b, off + f * 7 + 2, none⟩ = some (.int .i64 (u.fn f).params) ∧ w'.cell? ⟨b, off + f * 7 + 3, none⟩ = some (.bool (u.fn f).rest) ∧ w'.cell? ⟨b, off + f * 7 + 4, none⟩ = some (.slice (fas f).va (u.fn f).vn (fas f).vc) ∧ w'.cell? ⟨b, off + f * 7 + 5, none⟩ = some (.slice (fas f).ua (u.fn f).un (fas f).uc) ∧ w'.cell? ⟨b, off + f * 7 + 6, none⟩ = some (.slice (fas f).na (u.fn f).nn (fas f).nc) ∧ w'.cell? ⟨w.heap.size + 1, 0, none⟩ = some (.slice (some ⟨P, 0, none⟩) (u.fn f).nn (u.fn f).nn) ∧ w'.cell? ⟨w.heap.size + 1, 1, none⟩ = some (.slice (some ⟨D, 0, none⟩) (u.fn f).nn (u.fn f).nn)) (first | (with_reducible exact HUS.out _ (Below.refl _ _)) | (with_reducible exact HUS.out _ (Below.refl _ _).drew) | (with_reducible exact HUS.out _ hb9) | (with_reducible exact HUS.out _ hb9.drew)) ((go_at_call 83; refine (l3visible_calls L (u.fn f) (fas f) P D t ix _ ht (by first | exact HPu.out | exact HPu.out.below (Below.refl _ _).drew) HD.out).mono ?_; rw [hsc]; rintro e w9 ⟨rfl, hb9⟩; (try replace hb9 : Below _ _ w9 := below_call (Below.refl _ _).drew hb9)))
          go_wp2_with fail
          go_roundw
          case rel => exact ⟨k + 1, by omega, by go_num, fun j hj => by
            by_cases e : j = k
            · subst e; exact HG.out
            · exact HK.out j (by omega), below_call HB1.out hb9⟩
          case measure => simp [intOf]; omega
        · have he : dB (UpsOk u f t g) = false := dB_false fun h => by
            have := (h k hkn).1 (by rw [HU.out])
            rw [HU.out] at this
            exact hsco this.2
          have HE : Hid (dB (UpsOk u f t g) = false) := he
          have hsc : dB (Scoped (u.fn f) t ix) = false := dB_false hsco
          have q1 : decide (ix < 0) = false := by simpa using c1
          have q2 : decide (((u.fn f).vn : Int) ≤ ix) = false := by simpa using c2
          clear hsco he
          go_wp2_with fail
          go_region_held3 (fun w' => w'.cell? ⟨wr.heap.size, 1, none⟩ = some (.int .i64 ix) ∧ w'.cell? ⟨w.heap.size, 0, none⟩ = some (.slice (some ⟨b, off, none⟩) u.n cap) ∧ w'.cell? ⟨b, off + f * 7, none⟩ = some (.string (u.fn f).name) ∧ w'.cell? ⟨b, off + f * 7 + 1, none⟩ = some (.int .i64 (u.fn f).line) ∧ w'.cell? ⟨b, off + f * 7 + 2, none⟩ = some (.int .i64 (u.fn f).params) ∧ w'.cell? ⟨b, off + f * 7 + 3, none⟩ = some (.bool (u.fn f).rest) ∧ w'.cell? ⟨b, off + f * 7 + 4, none⟩ = some (.slice (fas f).va (u.fn f).vn (fas f).vc) ∧ w'.cell? ⟨b, off + f * 7 + 5, none⟩ = some (.slice (fas f).ua (u.fn f).un (fas f).uc) ∧ w'.cell? ⟨b, off + f * 7 + 6, none⟩ = some (.slice (fas f).na (u.fn f).nn (fas f).nc) ∧ w'.cell? ⟨w.heap.size + 1, 0, none⟩ = some (.slice (some ⟨P, 0, none⟩) (u.fn f).nn (u.fn f).nn) ∧ w'.cell? ⟨w.heap.size + 1, 1, none⟩ = some (.slice (some ⟨D, 0, none⟩) (u.fn f).nn (u.fn f).nn)) (first | (with_reducible exact HUS.out _ (Below.refl _ _)) | (with_reducible exact HUS.out _ (Below.refl _ _).drew) | (with_reducible exact HUS.out _ hb9) | (with_reducible exact HUS.out _ hb9.drew)) ((go_at_call 83; refine (l3visible_calls L (u.fn f) (fas f) P D t ix _ ht (by first | exact HPu.out | exact HPu.out.below (Below.refl _ _).drew) HD.out).mono ?_; rw [hsc]; rintro e w9 ⟨rfl, hb9⟩; (try replace hb9 : Below _ _ w9 := below_call (Below.refl _ _).drew hb9)))
          go_wp2_with fail
          go_ret
          exact ⟨ret_bool HE.out.symm, below_call HBw.out hb9⟩
    · have he : dB (UpsOk u f t g) = true := dB_true fun i hi => HK.out i (by omega)
      have HE : Hid (dB (UpsOk u f t g) = true) := he
      clear he
      go_wp2_with fail
      go_ret
      exact ⟨ret_bool HE.out.symm, bx2_below HB.out⟩
end Go.Proofs.YtcpjnddkibbddaaGreat

/-! The specification's check of a unit: codes 6 to 9, plain. -/
namespace Go.Proofs.YtcpjnddkibbddaaGreat
open Go.RowKit

theorem bs_six {u : UD} {f n : Nat} (hf : f < u.n) (hn : n < (u.fn f).nn) (h3 : ∀ f', f' < f → ∀ n', n' < (u.fn f').nn → RefsOk u f' n') (h4 : ∀ n', n' < n → RefsOk u f n') (h5 : ¬ RefsOk u f n) : Least (BadS u) ⟨6, f, n⟩ :=
  Least.ahead (At2.least (N := fun f => (u.fn f).nn) (bad := fun f x => ¬ RefsOk u f x) (by decide) (fun f' hf' n' hn' h => h (h3 f' hf' n' hn')) (fun n' hn' h => h (h4 n' hn')) hf hn h5) (by show (6 : Nat) ≠ 0; decide) fun y hy => by
    show 6 < y.c
    rcases hy with h | h | h <;> (rw [h.1]; decide)
theorem bs_seven {u : UD} {f n : Nat} (hf : f < u.n) (hn : n < (u.fn f).nn) (h6 : ∀ f', f' < u.n → ∀ n', n' < (u.fn f').nn → RefsOk u f' n') (h3 : ∀ f', f' < f → ∀ n', n' < (u.fn f').nn → ¬ JumpBad (u.fn f') n') (h4 : ∀ n', n' < n → ¬ JumpBad (u.fn f) n') (h5 : JumpBad (u.fn f) n) : Least (BadS u) ⟨7, f, n⟩ :=
  Least.behind (P := Bad6 u) (fun y hy => hy.2.2.2 (h6 _ hy.2.1 _ hy.2.2.1)) (Least.ahead (At2.least (N := fun f => (u.fn f).nn) (bad := fun f x => JumpBad (u.fn f) x) (by decide) h3 h4 hf hn h5) (by show (7 : Nat) ≠ 0; decide) fun y hy => by
    show 7 < y.c
    rcases hy with h | h <;> (rw [h.1]; decide))
/-- code 8 of a node -/
def EightBad (u : UD) (f n : Nat) : Prop := MakeBad u f n ∨ TwiceBad u f n
theorem bs_eight {u : UD} {f n : Nat} (hf : f < u.n) (hn : n < (u.fn f).nn) (h6 : ∀ f', f' < u.n → ∀ n', n' < (u.fn f').nn → RefsOk u f' n') (h7 : ∀ f', f' < u.n → ∀ n', n' < (u.fn f').nn → ¬ JumpBad (u.fn f') n') (h3 : ∀ f', f' < f → ∀ n', n' < (u.fn f').nn → ¬ EightBad u f' n') (h4 : ∀ n', n' < n → ¬ EightBad u f n') (h5 : EightBad u f n) : Least (BadS u) ⟨8, f, n⟩ :=
  Least.behind (P := Bad6 u) (fun y hy => hy.2.2.2 (h6 _ hy.2.1 _ hy.2.2.1)) (Least.behind (P := Bad7 u) (fun y hy => h7 _ hy.2.1 _ hy.2.2.1 hy.2.2.2) (Least.ahead (At2.least (N := fun f => (u.fn f).nn) (bad := EightBad u) (by decide) h3 h4 hf hn h5) (by show (8 : Nat) ≠ 0; decide) fun y hy => by
    show 8 < y.c
    rw [hy.1]; decide))
theorem bad8_iff {u : UD} (y : FT) : Bad8 u y ↔ At2 8 u.n (fun f => (u.fn f).nn) (EightBad u) y := Iff.rfl
theorem bs_nine {u : UD} {f : Nat} (hf : f < u.n) (h1 : 1 ≤ f) (h6 : ∀ f', f' < u.n → ∀ n', n' < (u.fn f').nn → RefsOk u f' n') (h7 : ∀ f', f' < u.n → ∀ n', n' < (u.fn f').nn → ¬ JumpBad (u.fn f') n') (h8 : ∀ f', f' < u.n → ∀ n', n' < (u.fn f').nn → ¬ EightBad u f' n') (h3 : ∀ f', 1 ≤ f' → f' < f → ∃ g x, MakesAt u g x f') (h5 : ¬ ∃ g x, MakesAt u g x f) : Least (BadS u) ⟨9, f, 0⟩ :=
  Least.behind (P := Bad6 u) (fun y hy => hy.2.2.2 (h6 _ hy.2.1 _ hy.2.2.1)) (Least.behind (P := Bad7 u) (fun y hy => h7 _ hy.2.1 _ hy.2.2.1 hy.2.2.2) (Least.behind (P := Bad8 u) (fun y hy => h8 _ hy.2.1 _ hy.2.2.1 hy.2.2.2) (.inr ⟨by show (0 : Nat) < 9; decide, ⟨rfl, rfl, h1, hf, h5⟩, fun y hy => .inr ⟨hy.1.symm, by
    show f < y.f ∨ f = y.f ∧ 0 ≤ y.n
    by_cases e : y.f < f
    · exact absurd (h3 _ hy.2.2.1 e) hy.2.2.2.2
    · omega⟩⟩)))
theorem bs_none {u : UD} (h6 : ∀ f', f' < u.n → ∀ n', n' < (u.fn f').nn → RefsOk u f' n') (h7 : ∀ f', f' < u.n → ∀ n', n' < (u.fn f').nn → ¬ JumpBad (u.fn f') n') (h8 : ∀ f', f' < u.n → ∀ n', n' < (u.fn f').nn → ¬ EightBad u f' n') (h9 : ∀ f', 1 ≤ f' → f' < u.n → ∃ g x, MakesAt u g x f') : Least (BadS u) ft0 :=
  Least.zero fun y hy => by
    rcases hy with hy | hy | hy | hy
    · exact hy.2.2.2 (h6 _ hy.2.1 _ hy.2.2.1)
    · exact h7 _ hy.2.1 _ hy.2.2.1 hy.2.2.2
    · exact h8 _ hy.2.1 _ hy.2.2.1 hy.2.2.2
    · exact hy.2.2.2.2 (h9 _ hy.2.2.1 hy.2.2.2.1)

theorem made_zero {u : UD} {g : Int} : ¬ MadeBefore u 0 0 g := by rintro ⟨f', x', h, _⟩; omega
theorem made_succ {u : UD} {f x : Nat} (hf : f < u.n) (hx : x < (u.fn f).nn) {g : Int} : MadeBefore u f (x + 1) g ↔ MadeBefore u f x g ∨ (((u.fn f).nd x).k = 36 ∧ ((u.fn f).nd x).r 0 = g) := by
  constructor
  · rintro ⟨f', x', h, hm⟩
    by_cases e : f' = f ∧ x' = x
    · obtain ⟨rfl, rfl⟩ := e
      exact .inr hm.2.2
    · exact .inl ⟨f', x', by omega, hm⟩
  · rintro (⟨f', x', h, hm⟩ | h)
    · exact ⟨f', x', by omega, hm⟩
    · exact ⟨f, x, by omega, hf, hx, h⟩
theorem made_next {u : UD} {f : Nat} {g : Int} : MadeBefore u (f + 1) 0 g ↔ MadeBefore u f (u.fn f).nn g := by
  constructor
  · rintro ⟨f', x', h, hm⟩
    refine ⟨f', x', ?_, hm⟩
    by_cases e : f' = f
    · subst e; exact .inr ⟨rfl, hm.2.1⟩
    · exact .inl (by omega)
  · rintro ⟨f', x', h, hm⟩
    exact ⟨f', x', by omega, hm⟩
theorem made_all {u : UD} {g : Int} : MadeBefore u u.n 0 g ↔ ∃ f x, MakesAt u f x g := by
  constructor
  · rintro ⟨f', x', _, hm⟩
    exact ⟨f', x', hm⟩
  · rintro ⟨f', x', hm⟩
    exact ⟨f', x', .inl hm.1, hm⟩

/-- the row of what has been made -/
def MadeRow (w : World) (M : Nat) (u : UD) (f x : Nat) : Prop := w.rowIs M 4 u.n (fun i => .bool (dB (MadeBefore u f x i)))
theorem MadeRow.below {w w' : World} {M : Nat} {u : UD} {f x : Nat} (h : MadeRow w M u f x) (hb : Below w.heap.size w w') : MadeRow w' M u f x := World.rowIs.of_block h (hb.block _ h.lt)
theorem MadeRow.congr {w : World} {M : Nat} {u : UD} {f x f' x' : Nat} (h : MadeRow w M u f x) (e : ∀ v : Nat, MadeBefore u f x v ↔ MadeBefore u f' x' v) : MadeRow w M u f' x' := World.rowIs.congr h fun i _ => by
  by_cases c : MadeBefore u f x i
  · rw [dB_true c, dB_true ((e i).1 c)]
  · rw [dB_false c, dB_false fun c' => c ((e i).2 c')]
theorem MadeRow.set {w : World} {M : Nat} {u : UD} {f x g : Nat} (hf : f < u.n) (hx : x < (u.fn f).nn) (h : MadeRow w M u f x) (hk : ((u.fn f).nd x).k = 36) (hg : ((u.fn f).nd x).r 0 = g) : MadeRow (w.setCell ⟨M, g, none⟩ (.bool true)) M u f (x + 1) := (World.rowIs.set h g (.bool true)).congr fun i _ => by
  by_cases e : i = g
  · rw [if_pos e, dB_true ((made_succ hf hx).2 (.inr ⟨hk, by rw [hg, e]⟩))]
  · rw [if_neg e]
    by_cases c : MadeBefore u f x i
    · rw [dB_true c, dB_true ((made_succ hf hx).2 (.inl c))]
    · rw [dB_false c, dB_false fun c' => ((made_succ hf hx).1 c').elim c fun h => e (by omega)]
theorem MadeRow.skip {w : World} {M : Nat} {u : UD} {f x : Nat} (hf : f < u.n) (hx : x < (u.fn f).nn) (h : MadeRow w M u f x) (hk : ((u.fn f).nd x).k ≠ 36) : MadeRow w M u f (x + 1) := h.congr fun v => by
  rw [made_succ hf hx]
  exact ⟨.inl, fun h => h.elim id fun h => absurd h.1 hk⟩

/-- parents and depths, made behind w -/
def Grow2Post (d : FD) (w : World) (e : Ending) (w' : World) : Prop := ∃ P D, e = .returned (treeV P D d.nn) ∧ IntsAt w.heap.size w' (some ⟨P, 0, none⟩) d.nn (parP d.nd d.nn) ∧ Below w.heap.size w w'
theorem grow2_calls (L : Nat) (d : FD) (x : FA) (w : World) (hn : d.nn ≤ 3000) (h0 : 0 < d.nn) (hK : KidsIn d.nd d.nn) (hs : d.sm) (hT : FnAt L w d x) :
    Calls Tryz.prog 48 #[.slice x.na d.nn x.nc] w fun e w' => Grow2Post d w e w' := by
  refine (l3grow_calls L d.nn d.nd x.na x.nc x.nas w hn h0 hK hs.nd hT.2.2).mono ?_
  rintro e w' ⟨⟨P, D, rfl, hP, hD, h1, h2⟩, hb⟩
  exact ⟨P, D, rfl, row_ints h1 hP, hb⟩
theorem infoBool : (Tryz.prog.info? 4).map (fun i => (i.zero, i.size, i.bytes)) = some (some (.bool false), 1, 1) := by kernel_rfl
theorem fdok_of {u : UD} (h : U5 u) (hs : u.sm) {f : Nat} (hf : f < u.n) : FdOk (u.fn f) := ⟨h.tree f hf, fun _ hi => h.facts hf hi, hs.fn f hf, (h.nn hf).1⟩
theorem seen_first {d : FD} {p : Nat} (hp : d.params = p) (v : Nat) : v < p ↔ SeenV d 0 0 v := by
  unfold SeenV
  constructor
  · intro h; exact .inl (by omega)
  · rintro (h | ⟨m, hm, _⟩ | ⟨b, hb, _⟩)
    · omega
    · omega
    · omega
end Go.Proofs.YtcpjnddkibbddaaGreat
