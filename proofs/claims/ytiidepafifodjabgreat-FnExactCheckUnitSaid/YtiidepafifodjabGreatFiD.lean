import Derived.Test.YtiidepafifodjabGreatThB
/-! The specification's check of a unit, whole. -/
namespace Go.Proofs.YtiidepafifodjabGreat
open Go.RowKit
attribute [local go_sem] run_store_float
attribute [local go_sem ↓] Go.wp_at_zero Go.wp_at_succ

theorem Least.in {P : FT → Prop} {x : FT} (h : Least P x) (h0 : x.c ≠ 0) : P x := by
  rcases h with ⟨rfl, _⟩ | ⟨_, h, _⟩
  · exact absurd rfl h0
  · exact h
theorem badU_split (u : UD) (y : FT) : BadU u y ↔ B13 u y ∨ (B45 u y ∨ BadS u y) := by
  unfold BadU B13 B45
  constructor
  · rintro (h | h | h | h | h | h)
    · exact .inl (.inl h)
    · exact .inl (.inr (.inl h))
    · exact .inl (.inr (.inr h))
    · exact .inr (.inl (.inl h))
    · exact .inr (.inl (.inr h))
    · exact .inr (.inr h)
  · rintro ((h | h | h) | (h | h) | h)
    · exact .inl h
    · exact .inr (.inl h)
    · exact .inr (.inr (.inl h))
    · exact .inr (.inr (.inr (.inl h)))
    · exact .inr (.inr (.inr (.inr (.inl h))))
    · exact .inr (.inr (.inr (.inr (.inr h))))
theorem b13_code {u : UD} {y : FT} (h : B13 u y) : y.c ≤ 3 := by rcases h with h | h | h <;> (rw [h.1]; decide)
theorem b45_code {u : UD} {y : FT} (h : B45 u y) : 4 ≤ y.c ∧ y.c ≤ 5 := by rcases h with h | h <;> (rw [h.1]; decide)
theorem badU_first {u : UD} {x : FT} (h : Least (B13 u) x) (h0 : x.c ≠ 0) : Least (BadU u) x :=
  (Least.ahead h h0 fun y hy => by
    have := b13_code (h.in h0)
    rcases hy with hy | hy
    · have := b45_code hy; omega
    · have := badS_code hy; omega).congr fun y => (badU_split u y).symm
theorem badU_second {u : UD} {x : FT} (h1 : ∀ y, ¬ B13 u y) (h : Least (B45 u) x) (h0 : x.c ≠ 0) : Least (BadU u) x :=
  (Least.behind h1 (Least.ahead h h0 fun y hy => by
    have := (b45_code (h.in h0)).2
    have := badS_code hy; omega)).congr fun y => (badU_split u y).symm
theorem badU_third {u : UD} {x : FT} (h1 : ∀ y, ¬ B13 u y) (h2 : ∀ y, ¬ B45 u y) (h : Least (BadS u) x) : Least (BadU u) x :=
  (Least.behind h1 (Least.behind h2 h)).congr fun y => (badU_split u y).symm
theorem u3_b13 {u : UD} (h : ∀ y, ¬ B13 u y) : U3 u := u3_of (fun y k => h y (.inl k)) (fun y k => h y (.inr (.inl k))) (fun y k => h y (.inr (.inr k)))
theorem u5_b45 {u : UD} (h3 : U3 u) (h : ∀ y, ¬ B45 u y) : U5 u := u5_of h3 (fun y k => h y (.inl k))

set_option maxRecDepth 100000 in
set_option maxHeartbeats 4000000 in
theorem specCheck_calls (L : Nat) (u : UD) (a : Option Addr) (cap : Nat) (fas : Nat → FA) (w : World) (hs : u.sm) (hT : FnsAt L w u.n u.fn a fas) :
    Calls Tryz.prog 8 #[unV u a cap] w fun e w' => FtPost (BadU u) w e w' := by
  have HT : Hid (FnsAt L w u.n u.fn a fas) := hT
  have HS : Hid u.sm := hs
  clear hT hs
  have HF0 : Hid (Below (fxW w u a cap).heap.size (fxW w u a cap) (fxW w u a cap)) := Below.refl _ _
  have arm1 := fun (W : World) (hW : Below (fxW w u a cap).heap.size (fxW w u a cap) W) => l3first_calls L u a cap fas W HS.out (HT.out.below (fx_below hW))
  have arm2 := fun (h3 : U3 u) (W : World) (hW : Below (fxW w u a cap).heap.size (fxW w u a cap) W) => l3second_calls L u a cap fas W HS.out h3 (HT.out.below (fx_below hW))
  have arm3 := fun (h5 : U5 u) (W : World) (hW : Below (fxW w u a cap).heap.size (fxW w u a cap) W) => l3third_calls L u a cap fas W HS.out h5 (HT.out.below (fx_below hW))
  have A1 : Hid (∀ W, Below (fxW w u a cap).heap.size (fxW w u a cap) W → Calls Tryz.prog 32 #[unV u a cap] W fun e w' => FtPost (B13 u) W e w') := arm1
  have A2 : Hid (U3 u → ∀ W, Below (fxW w u a cap).heap.size (fxW w u a cap) W → Calls Tryz.prog 33 #[unV u a cap] W fun e w' => FtPost (B45 u) W e w') := arm2
  have A3 : Hid (U5 u → ∀ W, Below (fxW w u a cap).heap.size (fxW w u a cap) W → Calls Tryz.prog 34 #[unV u a cap] W fun e w' => FtPost (BadS u) W e w') := arm3
  clear arm1 arm2 arm3
  go_enter Tryz.func8, Tryz.ntmps8
  go_upto_region 1 with fail
  obtain ⟨w0, HB0, hw0⟩ : ∃ w0, Hid (Below (fxW w u a cap).heap.size (fxW w u a cap) w0) ∧ fxW w u a cap = w0 := ⟨_, Below.refl _ _, rfl⟩
  simp only [fxW] at hw0
  rw [hw0]
  clear hw0 HF0
  have f0 : w0.cell? ⟨w.heap.size, 0, none⟩ = some (.slice a u.n cap) := (fx_u HB0.out).cell 0 rfl
  go_upto_region 2 with (go_at_call 32; refine (A1.out _ HB0.out).mono ?_; rintro e w1 ⟨⟨c1, f1, n1⟩, rfl, hL1, hb1⟩; have HL1 : Hid (Least (B13 u) ⟨c1, f1, n1⟩) := hL1; clear hL1)
  clear f0
  have HB1 : Hid (Below (fxW w u a cap).heap.size (fxW w u a cap) (w1.alloc (.cells #[.int .i64 (c1 : Int), .int .i64 (f1 : Int), .int .i64 (n1 : Int)] 27))) := below_a' (below_call HB0.out hb1) _
  obtain ⟨wA, hwA⟩ : ∃ wA, wA = w1.alloc (.cells #[.int .i64 (c1 : Int), .int .i64 (f1 : Int), .int .i64 (n1 : Int)] 27) := ⟨_, rfl⟩
  have HA : Hid (Has wA w1.heap.size #[.int .i64 (c1 : Int), .int .i64 (f1 : Int), .int .i64 (n1 : Int)]) := by show Has _ _ _; rw [hwA]; exact Has.new _ _ _
  rw [← hwA] at HB1
  rw [← hwA]
  clear hwA hb1
  have a0 : wA.cell? ⟨w1.heap.size, 0, none⟩ = some (.int .i64 (c1 : Int)) := HA.out.cell 0 rfl
  have a1 : wA.cell? ⟨w1.heap.size, 1, none⟩ = some (.int .i64 (f1 : Int)) := HA.out.cell 1 rfl
  have a2 : wA.cell? ⟨w1.heap.size, 2, none⟩ = some (.int .i64 (n1 : Int)) := HA.out.cell 2 rfl
  have f0 : wA.cell? ⟨w.heap.size, 0, none⟩ = some (.slice a u.n cap) := (fx_u HB1.out).cell 0 rfl
  by_cases c0 : c1 = 0
  · subst c0
    have hz := HL1.out.nil rfl
    have H1 : Hid (∀ y, ¬ B13 u y) := by
      have h := HL1.out
      rw [hz] at h
      exact h.none
    clear hz
    go_upto_region 5 with (go_at_call 33; refine (A2.out (u3_b13 H1.out) _ HB1.out).mono ?_; rintro e w2 ⟨⟨c2, f2, n2⟩, rfl, hL2, hb2⟩; have HL2 : Hid (Least (B45 u) ⟨c2, f2, n2⟩) := hL2; clear hL2)
    clear f0 a0 a1 a2
    have HB2 : Hid (Below (fxW w u a cap).heap.size (fxW w u a cap) (w2.alloc (.cells #[.int .i64 (c2 : Int), .int .i64 (f2 : Int), .int .i64 (n2 : Int)] 27))) := below_a' (below_call HB1.out hb2) _
    obtain ⟨wB, hwB⟩ : ∃ wB, wB = w2.alloc (.cells #[.int .i64 (c2 : Int), .int .i64 (f2 : Int), .int .i64 (n2 : Int)] 27) := ⟨_, rfl⟩
    have HA2 : Hid (Has wB w2.heap.size #[.int .i64 (c2 : Int), .int .i64 (f2 : Int), .int .i64 (n2 : Int)]) := by show Has _ _ _; rw [hwB]; exact Has.new _ _ _
    rw [← hwB] at HB2
    rw [← hwB]
    clear hwB hb2
    have a0 : wB.cell? ⟨w2.heap.size, 0, none⟩ = some (.int .i64 (c2 : Int)) := HA2.out.cell 0 rfl
    have a1 : wB.cell? ⟨w2.heap.size, 1, none⟩ = some (.int .i64 (f2 : Int)) := HA2.out.cell 1 rfl
    have a2 : wB.cell? ⟨w2.heap.size, 2, none⟩ = some (.int .i64 (n2 : Int)) := HA2.out.cell 2 rfl
    have f0 : wB.cell? ⟨w.heap.size, 0, none⟩ = some (.slice a u.n cap) := (fx_u HB2.out).cell 0 rfl
    by_cases c0 : c2 = 0
    · subst c0
      have hz := HL2.out.nil rfl
      have H2 : Hid (∀ y, ¬ B45 u y) := by
        have h := HL2.out
        rw [hz] at h
        exact h.none
      clear hz
      go_wp2_with (go_at_call 34; refine (A3.out (u5_b45 (u3_b13 H1.out) H2.out) _ HB2.out).mono ?_; rintro e w3 ⟨⟨c3, f3, n3⟩, rfl, hL3, hb3⟩; have HL3 : Hid (Least (BadS u) ⟨c3, f3, n3⟩) := hL3; have HB3 : Hid (Below (fxW w u a cap).heap.size (fxW w u a cap) w3) := below_call HB2.out hb3; clear hL3; have s0 := (fx_row HB3.out).cell (i := 0) (by omega); have s1 := (fx_row HB3.out).cell (i := 1) (by omega); have s2 := (fx_row HB3.out).cell (i := 2) (by omega); have sz := (fx_row HB3.out).frozen)
      refine bodyPost_ret (v := ftV ⟨c3, f3, n3⟩) (by simp [results, Tryz.results8, go_sem, s0, s1, s2]) rfl ?_
      exact FtPost.of (badU_third H1.out H2.out HL3.out) (fx_out (fx_below HB3.out) _ _ _)
    · have q : ((c2 : Int) != 0) = true := by simp; omega
      have s0 := (fx_row HB2.out).cell (i := 0) (by omega)
      have s1 := (fx_row HB2.out).cell (i := 1) (by omega)
      have s2 := (fx_row HB2.out).cell (i := 2) (by omega)
      have sz := (fx_row HB2.out).frozen
      have HQ : Hid (Least (BadU u) ⟨c2, f2, n2⟩) := badU_second H1.out HL2.out c0
      clear c0
      go_wp2_with fail
      refine bodyPost_ret (v := ftV ⟨c2, f2, n2⟩) (by simp [results, Tryz.results8, go_sem, s0, s1, s2]) rfl ?_
      exact FtPost.of HQ.out (fx_out (fx_below HB2.out) _ _ _)
  · have q : ((c1 : Int) != 0) = true := by simp; omega
    have s0 := (fx_row HB1.out).cell (i := 0) (by omega)
    have s1 := (fx_row HB1.out).cell (i := 1) (by omega)
    have s2 := (fx_row HB1.out).cell (i := 2) (by omega)
    have sz := (fx_row HB1.out).frozen
    have HQ : Hid (Least (BadU u) ⟨c1, f1, n1⟩) := badU_first HL1.out c0
    clear c0
    go_wp2_with fail
    refine bodyPost_ret (v := ftV ⟨c1, f1, n1⟩) (by simp [results, Tryz.results8, go_sem, s0, s1, s2]) rfl ?_
    exact FtPost.of HQ.out (fx_out (fx_below HB1.out) _ _ _)
end Go.Proofs.YtiidepafifodjabGreat
