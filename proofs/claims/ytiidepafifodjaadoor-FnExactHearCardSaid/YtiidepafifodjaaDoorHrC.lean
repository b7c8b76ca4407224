import Derived.Test.YtiidepafifodjaaDoorHrB
import Derived.Shelf.Bytes.SlSmallAll
import Derived.Laws.IdiomStrings
/-! The specification's reader: a text. -/
namespace Go.Proofs.YtiidepafifodjaaDoor
open Go.RowKit
attribute [local go_sem] run_store_float
attribute [local go_sem ↓] Go.wp_at_zero Go.wp_at_succ

/-- what a text's reader answers -/
structure TxtIs (l : List UInt8) (p : Nat) (bad : Bool) (s : ByteArray) (p' : Nat) (bad' : Bool) : Prop where
  r : s.size ≤ l.length - p
  le : p ≤ p'
  lt : p' ≤ l.length
  b : bad = true → bad' = true
  st : bad' = false → p < p'
  x : ∀ s0 t, l.drop p = txtL s0 ++ t → s0.size ≤ 1048576 → bad = false → s = s0 ∧ p' = p + (txtL s0).length ∧ bad' = false
theorem bA_app_len (s : ByteArray) : s.data.toList.length = s.size := by rw [Array.length_toList]; rfl
theorem txt_bad {l : List UInt8} {p : Nat} {bad : Bool} {n : Int} {p' : Nat} {bad' : Bool} (h : NumIs l p bad n p' bad') (hc : bad' = true ∨ n < 0 ∨ (l.length : Int) - (p' : Int) < n) : TxtIs l p bad ⟨#[]⟩ p' true := by
  refine ⟨Nat.zero_le _, h.le, h.lt, fun _ => rfl, fun e => Bool.noConfusion e, fun s0 t ht hs hb => ?_⟩
  unfold txtL at ht
  rw [List.append_assoc] at ht
  obtain ⟨e1, e2, e3⟩ := h.x _ _ ht (by unfold I64r; omega)
  have hl : (l.drop p).length = l.length - p := List.length_drop
  rw [ht] at hl
  simp only [List.length_append, bA_app_len] at hl
  rcases hc with e | e | e
  · rw [e3, hb] at e; cases e
  · omega
  · have := h.lt; omega
/-- a part of the bytes, as a string -/
theorem part_str {u : World} {a : Option Addr} {l : List UInt8} (hB : ByAt 0 u a l) (q n cap : Nat) (h : q + n ≤ l.length) (hcap : l.length ≤ cap) :
    (convert 27 9 (sliced a q (q + n) cap 1)).run Tryd.prog u = .ok (.string ⟨((l.drop q).take n).toArray⟩) u := by
  unfold sliced
  rw [show q + n - q = n by omega]
  by_cases hn : n = 0
  · subst hn
    exact run_convert_bytes_zero u 27 5 Tryd.underlying27 Tryd.underlying5 _ _ 9 Tryd.underlying9
  · obtain ⟨b, off, rfl, _, _, hc⟩ := hB (by omega)
    rw [if_neg (by omega)]
    have hlen : ((l.drop q).take n).length = n := by simp; omega
    have := run_convert_bytes_back (P := Tryd.prog) u 27 9 5 ((⟨b, off, none⟩ : Addr).add (q * 1)) (cap - q) ((l.drop q).take n) Tryd.underlying27 Tryd.underlying5 Tryd.underlying9 (fun j hj => by
      have hj' : j < n := by omega
      have h1 := hc (q + j) (by omega) 0 (by omega)
      have e1 : ((⟨b, off, none⟩ : Addr).add (q * 1)).add j = ⟨b, off + (q + j) * 1 + 0, none⟩ := by
        rw [Go.WideShapes.add_plain, Go.WideShapes.add_plain]
        congr 1
        omega
      rw [e1, h1]
      have e2 : l.getD (q + j) 0 = ((l.drop q).take n)[j] := by
        rw [List.getElem_take, List.getElem_drop, List.getD_eq_getElem?_getD, List.getElem?_eq_getElem (by omega)]
        rfl
      rw [← e2]
      rfl)
    rw [hlen] at this
    exact this
theorem txt_ok {l : List UInt8} {p : Nat} {n1 : Nat} {p' : Nat} (h : NumIs l p false (n1 : Int) p' false) (hc : n1 ≤ l.length - p') : TxtIs l p false ⟨((l.drop p').take n1).toArray⟩ (p' + n1) false := by
  have hlt := h.lt
  refine ⟨?_, by have := h.le; omega, by omega, fun e => e, fun _ => by have := h.s rfl; omega, fun s0 t ht hs hb => ?_⟩
  · have := h.le
    simp [ByteArray.size]
    omega
  · have ht' := ht
    unfold txtL at ht'
    rw [List.append_assoc] at ht'
    obtain ⟨e1, e2, e3⟩ := h.x _ _ ht' (by unfold I64r; omega)
    have e4 : n1 = s0.size := by omega
    have e5 : l.drop p' = s0.data.toList ++ t := by
      rw [e2, ← List.drop_drop, ht']
      simp
    refine ⟨?_, ?_, rfl⟩
    · rw [e5, e4, ← bA_app_len s0, List.take_left]
    · unfold txtL
      rw [List.length_append, bA_app_len]
      omega

set_option maxRecDepth 100000 in
set_option maxHeartbeats 8000000 in
theorem text_calls (R : Nat) (a : Option Addr) (cap : Nat) (l : List UInt8) (p : Nat) (bad : Bool) (w : World) (hl : l.length ≤ 1048576) (hcap : l.length ≤ cap) (hp : p ≤ l.length) (hR : RdX R a l.length cap p bad w) (hB : ByAt 0 w a l) (hne : ∀ b, a = some b → ¬ b.block = R) :
    Calls Tryd.prog 30 #[.pointer (some ⟨R, 0, none⟩)] w fun e w' => ∃ s p' bad', e = .returned (.string s) ∧ TxtIs l p bad s p' bad' ∧ RdX R a l.length cap p' bad' w' ∧ Gx (fun k => k = R) w w' := by
  have HB : Hid (ByAt 0 w a l) := hB
  have HNe : Hid (∀ b, a = some b → ¬ b.block = R) := hne
  have HR : Hid (RdX R a l.length cap p bad w) := hR
  clear hB hne hR
  go_enter Tryd.func30, Tryd.ntmps30
  go_wp2_with (go_at_call 29; refine (num_calls R a cap l p bad _ hl hp HR.out HB.out HNe.out).mono ?_; rintro e w2 ⟨n, p', bad', rfl, hi, hR2, hg2⟩; have HI : Hid (NumIs l p bad n p' bad') := hi; replace HR : Hid (RdX R a l.length cap p' bad' w2) := hR2; have HG : Hid (Gx (fun k => k = R) w w2) := hg2; clear hi hR2 hg2)
  obtain ⟨N, hN⟩ : ∃ N, l.length = N := ⟨_, rfl⟩
  have HN : Hid (l.length = N) := hN
  clear hN
  have hp' := HI.out.lt
  rw [HN.out] at hl hp hp' hcap
  replace HR : Hid (RdX R a N cap p' bad' w2) := by rw [← HN.out]; exact HR.out
  have c0 := HR.out.c0
  have c1 := HR.out.c1
  have c2 := HR.out.c2
  have cf1 := HR.out.fz 1
  have cf2 := HR.out.fz 2
  cases bad'
  · by_cases h0 : n < 0
    · have HX : Hid (TxtIs l p bad ⟨#[]⟩ p' true) := txt_bad HI.out (.inr (.inl h0))
      go_wp2_with fail
      go_quiet ((fail))
      go_wp2_with fail
      go_ret
      exact ⟨_, p', true, rfl, HX.out, by rw [HN.out]; exact HR.out.s2 true, (HG.out.drewN _).sets _ _⟩
    · have g0 : decide (n < 0) = false := by simpa using h0
      by_cases h1 : (N : Int) - (p' : Int) < n
      · have HX : Hid (TxtIs l p bad ⟨#[]⟩ p' true) := txt_bad HI.out (.inr (.inr (by rw [HN.out]; exact h1)))
        go_wp2_with fail
        go_quiet ((fail))
        go_wp2_with fail
        go_ret
        exact ⟨_, p', true, rfl, HX.out, by rw [HN.out]; exact HR.out.s2 true, (HG.out.drewN _).sets _ _⟩
      · have g1 : decide ((N : Int) - (p' : Int) < n) = false := by simpa using h1
        obtain ⟨n1, rfl⟩ : ∃ n1 : Nat, n = (n1 : Int) := ⟨n.toNat, by omega⟩
        have HBr : Hid (ByAt 0 w2 a l) := HG.out.row HB.out HNe.out
        go_wp2_with fail
        go_quiet ((fail))
        go_wp2_with fail
        have HX : Hid (bad = false → TxtIs l p false ⟨((l.drop p').take n1).toArray⟩ (p' + n1) false) := fun e => by
          have h := HI.out
          rw [e] at h
          exact txt_ok h (by rw [HN.out]; omega)
        have HXb : Hid (bad = false) := by
          cases bad
          · rfl
          · exact absurd (HI.out.b rfl) (by decide)
        have hcv : ∀ k, (convert 27 9 (sliced a p' (p' + n1) cap 1)).run Tryd.prog (w2.drewN k) = .ok (.string ⟨((l.drop p').take n1).toArray⟩) (w2.drewN k) := fun k => part_str (u := w2.drewN k) (q := p') (n := n1) (cap := cap) HBr.out (by rw [HN.out]; omega) (by rw [HN.out]; exact hcap)
        generalize (⟨((l.drop p').take n1).toArray⟩ : ByteArray) = sx at hcv HX
        have e1 : ((p' : Int) + (n1 : Int)).toNat = p' + n1 := by omega
        have e2 : (p' : Int) + (n1 : Int) ≤ (cap : Int) := by omega
        have e3 : (p' : Int) ≤ (p' : Int) + (n1 : Int) := by omega
        have e4 : (0 : Int) ≤ (p' : Int) := by omega
        have e5 : IntKind.i64.wrap ((p' : Int) + (n1 : Int)) = (p' : Int) + (n1 : Int) := by simp [IntKind.wrap, IntKind.bits, IntKind.signed]; omega
        unfold sliced at hcv
        rw [Nat.add_sub_cancel_left] at hcv
        have HCv : Hid (∀ k, (convert 27 9 (.slice (if cap = p' then a else a.map (·.add (p' * 1))) n1 (cap - p'))).run Tryd.prog (w2.drewN k) = .ok (.string sx) (w2.drewN k)) := hcv
        clear hcv
        by_cases hcp : cap = p'
        · have HC1 : Hid (∀ k, (convert 27 9 (.slice a n1 0)).run Tryd.prog (w2.drewN k) = .ok (.string sx) (w2.drewN k)) := fun k => by
            have h := HCv.out k
            rw [if_pos hcp, hcp, Nat.sub_self] at h
            exact h
          subst hcp
          clear HCv
          go_quiet ((rw [HC1.out]; exact ⟨rfl, rfl⟩))
          all_goals go_wp2_with fail
          all_goals go_ret
          all_goals exact ⟨sx, cap + n1, false, rfl, by rw [HXb.out]; exact HX.out HXb.out, by rw [HN.out]; exact HR.out.s1 (cap + n1), (HG.out.drewN _).sets _ _⟩
        · have HC1 : Hid (∀ k, (convert 27 9 (.slice (a.map (·.add (p' * 1))) n1 (cap - p'))).run Tryd.prog (w2.drewN k) = .ok (.string sx) (w2.drewN k)) := fun k => by
            have h := HCv.out k
            rw [if_neg hcp] at h
            exact h
          clear HCv
          cases a with
          | none =>
            simp only [Option.map_none] at HC1
            go_quiet ((rw [HC1.out]; exact ⟨rfl, rfl⟩))
            all_goals go_wp2_with fail
            all_goals go_ret
            all_goals exact ⟨sx, p' + n1, false, rfl, by rw [HXb.out]; exact HX.out HXb.out, by rw [HN.out]; exact HR.out.s1 (p' + n1), (HG.out.drewN _).sets _ _⟩
          | some x =>
            simp only [Option.map_some, Nat.mul_one] at HC1
            go_quiet ((rw [HC1.out]; exact ⟨rfl, rfl⟩))
            all_goals go_wp2_with fail
            all_goals go_ret
            all_goals exact ⟨sx, p' + n1, false, rfl, by rw [HXb.out]; exact HX.out HXb.out, by rw [HN.out]; exact HR.out.s1 (p' + n1), (HG.out.drewN _).sets _ _⟩
  · have HX : Hid (TxtIs l p bad ⟨#[]⟩ p' true) := txt_bad HI.out (.inl rfl)
    go_wp2_with fail
    go_quiet ((fail))
    go_wp2_with fail
    go_ret
    exact ⟨_, p', true, rfl, HX.out, by rw [HN.out]; exact HR.out.s2 true, (HG.out.drewN _).sets _ _⟩
end Go.Proofs.YtiidepafifodjaaDoor
