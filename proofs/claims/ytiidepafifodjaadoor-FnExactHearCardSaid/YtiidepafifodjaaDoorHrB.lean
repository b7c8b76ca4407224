import Derived.Test.YtiidepafifodjaaDoorHrA
import Derived.Test.YtiidepafifodjaaDoorTlH
import Derived.Deep.QuietTactic
import Derived.BigQuiet
import Derived.Deep.DeepCutAuto
/-! The specification's reader: a number. -/
namespace Go.Proofs.YtiidepafifodjaaDoor
open Go.RowKit
attribute [local go_sem] run_store_float
attribute [local go_sem ↓] Go.wp_at_zero Go.wp_at_succ

/-- the reader's box -/
def RdX (R : Nat) (a : Option Addr) (n cap p : Nat) (bad : Bool) (u : World) : Prop := u.heap[R]? = some (.cells #[.slice a n cap, .int .i64 (p : Int), .bool bad] 56 (0, 0))
theorem RdX.c0 {R n cap p : Nat} {a : Option Addr} {bad : Bool} {u : World} (h : RdX R a n cap p bad u) : u.cell? ⟨R, 0, none⟩ = some (.slice a n cap) := by unfold RdX at h; simp [World.cell?, h]
theorem RdX.c1 {R n cap p : Nat} {a : Option Addr} {bad : Bool} {u : World} (h : RdX R a n cap p bad u) : u.cell? ⟨R, 1, none⟩ = some (.int .i64 (p : Int)) := by unfold RdX at h; simp [World.cell?, h]
theorem RdX.c2 {R n cap p : Nat} {a : Option Addr} {bad : Bool} {u : World} (h : RdX R a n cap p bad u) : u.cell? ⟨R, 2, none⟩ = some (.bool bad) := by unfold RdX at h; simp [World.cell?, h]
theorem RdX.fz {R n cap p : Nat} {a : Option Addr} {bad : Bool} {u : World} (h : RdX R a n cap p bad u) (o : Nat) : u.frozen? ⟨R, o, none⟩ = false := by unfold RdX at h; simp [World.frozen?, h]
theorem RdX.s1 {R n cap p : Nat} {a : Option Addr} {bad : Bool} {u : World} (h : RdX R a n cap p bad u) (p' : Nat) : RdX R a n cap p' bad (u.setCell ⟨R, 1, none⟩ (.int .i64 (p' : Int))) := by unfold RdX at h ⊢; simp [World.setCell, Array.getElem?_modify, h]
theorem RdX.s2 {R n cap p : Nat} {a : Option Addr} {bad : Bool} {u : World} (h : RdX R a n cap p bad u) (b' : Bool) : RdX R a n cap p b' (u.setCell ⟨R, 2, none⟩ (.bool b')) := by unfold RdX at h ⊢; simp [World.setCell, Array.getElem?_modify, h]
theorem RdX.drew {R n cap p : Nat} {a : Option Addr} {bad : Bool} {u : World} (h : RdX R a n cap p bad u) : RdX R a n cap p bad u.drew := h
theorem Gx.drew {S : Nat → Prop} {w u : World} (h : Gx S w u) : Gx S w u.drew := h.trans (Gx.below S (Below.refl _ u).drew) (fun _ _ h => h)
theorem Gx.drewN {S : Nat → Prop} {w u : World} (h : Gx S w u) (n : Nat) : Gx S w (u.drewN n) := h.trans (Gx.below S (below_drewN (Below.refl _ u) n)) (fun _ _ h => h)
theorem Gx.sets {R : Nat} {w u : World} (h : Gx (fun k => k = R) w u) (j : Nat) (v : Value) : Gx (fun k => k = R) w (u.setCell ⟨R, j, none⟩ v) := h.trans (Gx.set u R j v) (fun _ _ h => h)
/-- what a number's reader answers -/
structure NumIs (l : List UInt8) (p : Nat) (bad : Bool) (n : Int) (p' : Nat) (bad' : Bool) : Prop where
  r : I64r n
  le : p ≤ p'
  lt : p' ≤ l.length
  b : bad = true → bad' = true
  s : bad' = false → p < p'
  x : ∀ n0 t, l.drop p = numL n0 ++ t → I64r n0 → n = n0 ∧ p' = p + (numL n0).length ∧ bad' = bad
  zz : p = l.length → n = 0

/-- where the digits begin, and the sign -/
def SQ (l : List UInt8) (p q : Nat) (sg : Int) : Prop := (p < l.length ∧ (l.getD p 0).toNat = 45 ∧ q = p + 1 ∧ sg = -1) ∨ (¬ (p < l.length ∧ (l.getD p 0).toNat = 45) ∧ q = p ∧ sg = 1)
/-- j digits have been read -/
structure DgR (l : List UInt8) (q : Nat) (sg : Int) (j pp : Nat) (n : Int) : Prop where
  e : pp = q + j
  n : n = rdF sg ((l.drop q).take j) 0
  d : ∀ i, i < j → IsDg ((l.drop q).getD i 0)
  le : pp ≤ l.length
  k : j ≤ 19
theorem DgR.start {l : List UInt8} {p q : Nat} {sg : Int} (h : SQ l p q sg) (hp : p ≤ l.length) : DgR l q sg 0 q 0 := by
  refine ⟨rfl, by simp [rdF], fun i hi => by omega, ?_, by omega⟩
  rcases h with ⟨h1, _, h2, _⟩ | ⟨_, h2, _⟩ <;> omega
theorem DgR.next {l : List UInt8} {q : Nat} {sg : Int} {j pp : Nat} {n : Int} (h : DgR l q sg j pp n) (hp : pp < l.length) (hd : IsDg (l.getD pp 0)) (hj : j < 19) : DgR l q sg (j + 1) (pp + 1) (wrap64 (10 * n + sg * (((l.getD pp 0).toNat : Int) - 48))) := by
  have e : (l.drop q).getD j 0 = l.getD pp 0 := by rw [getD_drop, h.e]
  have hjl : j < (l.drop q).length := by rw [List.length_drop]; have := h.e; omega
  refine ⟨by have := h.e; omega, ?_, fun i hi => ?_, by omega, by omega⟩
  · rw [List.take_succ_eq_append_getElem hjl, rdF_app, ← h.n]
    have : (l.drop q)[j] = l.getD pp 0 := by rw [← e, List.getD_eq_getElem?_getD, List.getElem?_eq_getElem hjl]; rfl
    rw [this]
    rfl
  · by_cases c : i = j
    · subst c; rw [e]; exact hd
    · exact h.d i (by omega)
theorem told_end {l : List UInt8} {p q : Nat} {sg : Int} {j pp : Nat} {n : Int} (h : DgR l q sg j pp n) (hs : SQ l p q sg) (hex : ¬ (pp < l.length ∧ IsDg (l.getD pp 0) ∧ j < 19)) {n0 : Int} {t : List UInt8} (ht : l.drop p = numL n0 ++ t) (h0 : I64r n0) :
    0 < j ∧ pp < l.length ∧ (l.getD pp 0).toNat = 32 ∧ n = n0 ∧ pp + 1 = p + (numL n0).length := by
  have hnl := numL_eq n0 h0
  have hub : n0.natAbs < 10 ^ (18 + 1) := by unfold I64r at h0; exact Nat.lt_of_le_of_lt (show n0.natAbs ≤ 9223372036854775808 by omega) (by decide)
  have hlen := dec_len 18 n0.natAbs hub
  have hne : 0 < (Lib.decDigits n0.natAbs).length := List.length_pos_iff.2 (dec_ne _)
  have hval := rdF_dec n0 h0
  have key : l.drop q = Lib.decDigits n0.natAbs ++ 32 :: t ∧ sg = (if n0 < 0 then -1 else 1) ∧ q + (Lib.decDigits n0.natAbs).length + 1 = p + (numL n0).length := by
    by_cases c : n0 < 0
    · rw [if_pos c] at hnl
      rw [hnl] at ht
      have h1 : p < l.length := by
        apply Nat.lt_of_not_le
        intro hc
        rw [List.drop_of_length_le hc] at ht
        simp at ht
      have h2 : l.getD p 0 = 45 := by rw [show p = p + 0 by omega, ← getD_drop, ht]; rfl
      rcases hs with ⟨_, _, hq, hg⟩ | ⟨hn, _, _⟩
      · subst hq hg
        refine ⟨?_, by rw [if_pos c], by rw [hnl]; simp; omega⟩
        rw [← List.drop_drop, ht]
        simp
      · exact absurd ⟨h1, by rw [h2]; rfl⟩ hn
    · rw [if_neg c] at hnl
      rw [hnl] at ht
      have hd : ∀ c ∈ Lib.decDigits n0.natAbs, IsDg c := dec_dg _
      rcases hs with ⟨h1, h2, hq, hg⟩ | ⟨_, hq, hg⟩
      · exfalso
        cases hl : Lib.decDigits n0.natAbs with
        | nil => exact dec_ne _ hl
        | cons x r =>
          rw [hl] at ht hd
          have hx := hd x (by simp)
          have h3 : l.getD p 0 = x := by rw [show p = p + 0 by omega, ← getD_drop, ht]; rfl
          rw [h3] at h2
          unfold IsDg at hx
          omega
      · subst hq hg
        refine ⟨by rw [ht]; simp, by rw [if_neg c], by rw [hnl]; simp; omega⟩
  obtain ⟨k1, k2, k3⟩ := key
  have he := h.e
  have hll : (l.drop q).length = l.length - q := List.length_drop
  have hle := h.le
  obtain ⟨r1, r2, r3, r4⟩ := digits_end k1 (j := j) hlen h.d (by
    by_cases c1 : pp < l.length
    · by_cases c2 : j < 19
      · right; right
        intro c3
        rw [getD_drop, ← he] at c3
        exact hex ⟨c1, c3, c2⟩
      · left; have := h.k; omega
    · right; left; omega)
  rw [getD_drop, ← he] at r2
  refine ⟨by omega, by omega, by rw [r2]; rfl, ?_, by omega⟩
  rw [h.n, r4, k2, hval]
theorem num_bad {l : List UInt8} {p q : Nat} {sg : Int} {j pp : Nat} {n : Int} {bad : Bool} (h : DgR l q sg j pp n) (hs : SQ l p q sg) (hex : ¬ (pp < l.length ∧ IsDg (l.getD pp 0) ∧ j < 19)) (hD : j = 0 ∨ l.length ≤ pp ∨ (l.getD pp 0).toNat ≠ 32) : NumIs l p bad 0 pp true := by
  refine ⟨by unfold I64r; omega, ?_, h.le, fun _ => rfl, fun e => Bool.noConfusion e, fun n0 t ht h0 => ?_, fun _ => rfl⟩
  · have := h.e
    rcases hs with ⟨_, _, h2, _⟩ | ⟨_, h2, _⟩ <;> omega
  · obtain ⟨t1, t2, t3, _⟩ := told_end h hs hex ht h0
    rcases hD with e | e | e
    · omega
    · omega
    · exact absurd t3 e
theorem num_ok {l : List UInt8} {p q : Nat} {sg : Int} {j pp : Nat} {n : Int} {bad : Bool} (h : DgR l q sg j pp n) (hs : SQ l p q sg) (hex : ¬ (pp < l.length ∧ IsDg (l.getD pp 0) ∧ j < 19)) (hpp : pp < l.length) : NumIs l p bad n (pp + 1) bad := by
  have hle : p ≤ pp := by
    have := h.e
    rcases hs with ⟨_, _, h2, _⟩ | ⟨_, h2, _⟩ <;> omega
  refine ⟨by rw [h.n]; exact rdF_r _ _ _ (by unfold I64r; omega), by omega, by omega, id, fun _ => by omega, fun n0 t ht h0 => ?_, fun e => by omega⟩
  obtain ⟨_, _, _, t4, t5⟩ := told_end h hs hex ht h0
  exact ⟨t4, t5, rfl⟩
theorem wrap_sum (x y : Int) : wrap64 (wrap64 x + wrap64 y) = wrap64 (x + y) := by simp only [wrap64]; omega

set_option maxRecDepth 100000 in
set_option maxHeartbeats 8000000 in
theorem num_calls (R : Nat) (a : Option Addr) (cap : Nat) (l : List UInt8) (p : Nat) (bad : Bool) (w : World) (hl : l.length ≤ 1048576) (hp : p ≤ l.length) (hR : RdX R a l.length cap p bad w) (hB : ByAt 0 w a l) (hne : ∀ b, a = some b → ¬ b.block = R) :
    Calls Tryd.prog 29 #[.pointer (some ⟨R, 0, none⟩)] w fun e w' => ∃ n p' bad', e = .returned (.int .i64 n) ∧ NumIs l p bad n p' bad' ∧ RdX R a l.length cap p' bad' w' ∧ Gx (fun k => k = R) w w' := by
  have HB : Hid (ByAt 0 w a l) := hB
  have HNe : Hid (∀ b, a = some b → ¬ b.block = R) := hne
  have HR : Hid (RdX R a l.length cap p bad w) := hR
  have HG : Hid (Gx (fun k => k = R) w w) := Gx.refl _ _
  obtain ⟨N, hN⟩ : ∃ N, l.length = N := ⟨_, rfl⟩
  have HN : Hid (l.length = N) := hN
  clear hB hne hR hN
  rw [HN.out] at hl hp
  replace HR : Hid (RdX R a N cap p bad w) := by rw [← HN.out]; exact HR.out
  go_enter Tryd.func29, Tryd.ntmps29
  go_upto_region 4 with fail
  go_cut [28] (fun v wc => ∃ b0 : Bool, v = .bool b0 ∧ Hid (b0 = true ↔ (p < l.length ∧ (l.getD p 0).toNat = 45)) ∧ Hid (RdX R a N cap p bad wc) ∧ Hid (Gx (fun k => k = R) w wc))
  case first =>
    have c0 := HR.out.c0
    have c1 := HR.out.c1
    by_cases hpl : p < N
    · obtain ⟨b, off, rfl, _, hb, d0⟩ := cellsB1 HB.out (k := p) (by rw [HN.out]; exact hpl)
      obtain ⟨z, hz⟩ : ∃ z, (l.getD p 0).toNat = z := ⟨_, rfl⟩
      have HZ : Hid ((l.getD p 0).toNat = z) := hz
      have hz2 : z < 256 := by rw [← hz]; exact (l.getD p 0).toNat_lt
      rw [hz] at d0
      clear hz
      have g1 : (p : Int) < (N : Int) := by omega
      by_cases h45 : (z : Int) = 45
      · go_quiet ((fail))
        go_wp2_with fail
        go_meet
        exact ⟨true, rfl, ⟨fun _ => ⟨by rw [HN.out]; exact hpl, by rw [HZ.out]; omega⟩, fun _ => rfl⟩, HR.out, HG.out.drewN _⟩
      · have g2 : ((z : Int) == 45) = false := by simpa using h45
        go_quiet ((fail))
        go_wp2_with fail
        go_meet
        exact ⟨false, by first | rfl | rw [g2], ⟨fun h => Bool.noConfusion h, fun h => absurd (by have := h.2; rw [HZ.out] at this; omega) h45⟩, HR.out, HG.out.drewN _⟩
    · have g1 : decide ((p : Int) < (N : Int)) = false := by simp; omega
      go_quiet ((fail))
      go_wp2_with fail
      go_meet
      exact ⟨false, rfl, ⟨fun h => Bool.noConfusion h, fun h => absurd (by rw [← HN.out]; exact h.1) hpl⟩, HR.out, HG.out.drewN _⟩
  case rest =>
  clear HR HG
  obtain ⟨b0, rfl, HB0, HR, HG⟩ := hcut
  go_upto_if 28 with fail
  go_cut [3] (fun s wc => ∃ (sg : Int) (q : Nat), s = .int .i64 sg ∧ Hid (SQ l p q sg) ∧ Hid (RdX R a N cap q bad wc) ∧ Hid (Gx (fun k => k = R) w wc))
  case first =>
    have c0 := HR.out.c0
    have c1 := HR.out.c1
    have cf := HR.out.fz 1
    cases b0
    · have HX : Hid (¬ (p < l.length ∧ (l.getD p 0).toNat = 45)) := fun h => Bool.noConfusion (HB0.out.2 h)
      clear HB0
      go_wp2_with fail
      go_meet
      exact ⟨1, p, rfl, .inr ⟨HX.out, rfl, rfl⟩, HR, HG⟩
    · have HX : Hid (p < l.length ∧ (l.getD p 0).toNat = 45) := HB0.out.1 rfl
      clear HB0
      go_wp2_with fail
      go_meet
      exact ⟨-1, p + 1, rfl, .inl ⟨HX.out.1, HX.out.2, rfl, rfl⟩, HR.out.s1 (p + 1), HG.out.sets _ _⟩
  case rest =>
  clear HR HG HB0
  obtain ⟨sg, q, rfl, HQ, HR, HG⟩ := hcut
  have HD : Hid (DgR l q sg 0 q 0) := DgR.start HQ.out (by rw [HN.out]; exact hp)
  go_wp2_with fail
  go_loopw [4, 5] (fun nv dv wr => ∃ (j pp : Nat) (n : Int), nv = .int .i64 n ∧ dv = .int .i64 (j : Int) ∧ Hid (DgR l q sg j pp n) ∧ Hid (RdX R a N cap pp bad wr) ∧ Hid (Gx (fun k => k = R) w wr)) (fun _ dv _ => 19 - (intOf dv).toNat)
  case atStart => exact ⟨0, q, 0, rfl, rfl, HD, HR, HG⟩
  case round =>
    clear HR HG HD
    obtain ⟨j, pp, n, rfl, rfl, HD, HR, HG⟩ := hrel
    have hk := HD.out.k
    have hle := HD.out.le
    rw [HN.out] at hle
    have c0 := HR.out.c0
    have c1 := HR.out.c1
    have HBr : Hid (ByAt 0 wr a l) := HG.out.row HB.out HNe.out
    go_upto_region 7 with fail
    go_cut [75] (fun v wc => ∃ b0 : Bool, v = .bool b0 ∧ Hid (b0 = true ↔ (pp < l.length ∧ IsDg (l.getD pp 0) ∧ j < 19)) ∧ Hid (RdX R a N cap pp bad wc) ∧ Hid (Gx (fun k => k = R) w wc))
    case first =>
      by_cases hpl : pp < N
      · obtain ⟨b, off, rfl, _, hb, d0⟩ := cellsB1 HBr.out (k := pp) (by rw [HN.out]; exact hpl)
        obtain ⟨z, hz⟩ : ∃ z, (l.getD pp 0).toNat = z := ⟨_, rfl⟩
        have HZ : Hid ((l.getD pp 0).toNat = z) := hz
        have hz2 : z < 256 := by rw [← hz]; exact (l.getD pp 0).toNat_lt
        rw [hz] at d0
        clear hz
        have g1 : (pp : Int) < (N : Int) := by omega
        by_cases h48 : (48 : Int) ≤ (z : Int)
        · by_cases h57 : (z : Int) ≤ 57
          · by_cases h19 : (j : Int) < 19
            · go_quiet ((fail))
              go_wp2_with fail
              go_meet
              exact ⟨true, rfl, ⟨fun _ => ⟨by rw [HN.out]; exact hpl, by unfold IsDg; rw [HZ.out]; omega, by omega⟩, fun _ => rfl⟩, HR.out, HG.out.drewN _⟩
            · have g4 : decide ((j : Int) < 19) = false := by simpa using h19
              go_quiet ((fail))
              go_wp2_with fail
              go_meet
              exact ⟨false, rfl, ⟨fun h => Bool.noConfusion h, fun h => by have := h.2.2; omega⟩, HR.out, HG.out.drewN _⟩
          · have g3 : decide ((z : Int) ≤ 57) = false := by simpa using h57
            go_quiet ((fail))
            go_wp2_with fail
            go_meet
            exact ⟨false, rfl, ⟨fun h => Bool.noConfusion h, fun h => by have := h.2.1.2; rw [HZ.out] at this; omega⟩, HR.out, HG.out.drewN _⟩
        · have g2 : decide ((48 : Int) ≤ (z : Int)) = false := by simpa using h48
          go_quiet ((fail))
          go_wp2_with fail
          go_meet
          exact ⟨false, rfl, ⟨fun h => Bool.noConfusion h, fun h => by have := h.2.1.1; rw [HZ.out] at this; omega⟩, HR.out, HG.out.drewN _⟩
      · have g1 : decide ((pp : Int) < (N : Int)) = false := by simp; omega
        go_quiet ((fail))
        go_wp2_with fail
        go_meet
        exact ⟨false, rfl, ⟨fun h => Bool.noConfusion h, fun h => absurd (by rw [← HN.out]; exact h.1) hpl⟩, HR.out, HG.out.drewN _⟩
    case rest =>
    clear HR HG HBr c0 c1
    obtain ⟨b0, rfl, HB0, HR, HG⟩ := hcut
    have HBr : Hid (ByAt 0 wc a l) := HG.out.row HB.out HNe.out
    have c0 := HR.out.c0
    have c1 := HR.out.c1
    have cf1 := HR.out.fz 1
    have cf2 := HR.out.fz 2
    cases b0
    · have HX : Hid (¬ (pp < l.length ∧ IsDg (l.getD pp 0) ∧ j < 19)) := fun h => Bool.noConfusion (HB0.out.2 h)
      clear HB0
      go_upto_region 11 with fail
      go_cut [128] (fun v wc => ∃ b1 : Bool, v = .bool b1 ∧ Hid (b1 = true ↔ (j = 0 ∨ l.length ≤ pp ∨ (l.getD pp 0).toNat ≠ 32)) ∧ Hid (RdX R a N cap pp bad wc) ∧ Hid (Gx (fun k => k = R) w wc))
      case first =>
        by_cases hj0 : j = 0
        · have g0 : ((j : Int) == 0) = true := by simp [hj0]
          go_quiet ((fail))
          go_wp2_with fail
          go_meet
          exact ⟨true, by first | rfl | rw [g0], ⟨fun _ => .inl hj0, fun _ => rfl⟩, HR.out, HG.out.drewN _⟩
        · have g0 : ((j : Int) == 0) = false := by simp; omega
          by_cases hpl : pp < N
          · obtain ⟨b, off, rfl, _, hb, d0⟩ := cellsB1 HBr.out (k := pp) (by rw [HN.out]; exact hpl)
            obtain ⟨z, hz⟩ : ∃ z, (l.getD pp 0).toNat = z := ⟨_, rfl⟩
            have HZ : Hid ((l.getD pp 0).toNat = z) := hz
            have hz2 : z < 256 := by rw [← hz]; exact (l.getD pp 0).toNat_lt
            rw [hz] at d0
            clear hz
            have g1 : decide ((N : Int) ≤ (pp : Int)) = false := by simp; omega
            have g5 : (pp : Int) < (N : Int) := by omega
            go_quiet ((fail))
            go_wp2_with fail
            go_meet
            refine ⟨((z : Int) != 32), by first | rfl | (congr 1; simp [bne]; intro _; omega), ?_, HR.out, HG.out.drewN _⟩
            show _ ↔ _
            rw [HN.out, HZ.out]
            by_cases c : (z : Int) = 32
            · simp [c]; omega
            · simp [c]; omega
          · have g1 : decide ((N : Int) ≤ (pp : Int)) = true := by simp; omega
            go_quiet ((fail))
            go_wp2_with fail
            go_meet
            exact ⟨true, by first | rfl | rw [g1], ⟨fun _ => .inr (.inl (by rw [HN.out]; omega)), fun _ => rfl⟩, HR.out, HG.out.drewN _⟩
      case rest =>
      clear HR HG HBr c0 c1 cf1 cf2
      obtain ⟨b1, rfl, HB1, HR, HG⟩ := hcut
      have c1 := HR.out.c1
      have cf1 := HR.out.fz 1
      have cf2 := HR.out.fz 2
      have c2 := HR.out.c2
      cases b1
      · have HY : Hid (¬ (j = 0 ∨ l.length ≤ pp ∨ (l.getD pp 0).toNat ≠ 32)) := fun h => Bool.noConfusion (HB1.out.2 h)
        clear HB1
        go_wp2_with fail
        go_ret
        exact ⟨n, pp + 1, bad, rfl, num_ok HD.out HQ.out HX.out (by have := HY.out; omega), by rw [HN.out]; exact HR.out.s1 (pp + 1), HG.out.sets _ _⟩
      · have HY : Hid (j = 0 ∨ l.length ≤ pp ∨ (l.getD pp 0).toNat ≠ 32) := HB1.out.1 rfl
        clear HB1
        go_wp2_with fail
        go_ret
        exact ⟨0, pp, true, rfl, num_bad HD.out HQ.out HX.out HY.out, by rw [HN.out]; exact HR.out.s2 true, HG.out.sets _ _⟩
    · obtain ⟨h1, h2, h3⟩ := HB0.out.1 rfl
      have HD2 := HD.out.next h1 h2 h3
      rw [HN.out] at h1
      obtain ⟨b, off, rfl, _, hb, d0⟩ := cellsB1 HBr.out (k := pp) (by rw [HN.out]; exact h1)
      unfold IsDg at h2
      obtain ⟨z, hz⟩ : ∃ z, (l.getD pp 0).toNat = z := ⟨_, rfl⟩
      rw [hz] at d0 h2 HD2
      clear hz
      obtain ⟨z1, z2⟩ := h2
      have HDn : Hid (DgR l q sg (j + 1) (pp + 1) (wrap64 (wrap64 (10 * n) + wrap64 (sg * ((z : Int) - 48))))) := by rw [wrap_sum]; exact HD2
      clear HD2 HB0
      have g1 : (pp : Int) < (N : Int) := by omega
      go_wp2_with fail
      go_quiet ((fail))
      go_wp2_with fail
      go_roundw
      case rel => exact ⟨j + 1, pp + 1, _, rfl, by go_num, HDn, HR.out.s1 (pp + 1), (HG.out.drewN _).sets _ _⟩
      case measure => simp [intOf]; omega
end Go.Proofs.YtiidepafifodjaaDoor
