import Derived.Test.YtiidepafifodjabGreatCompare
import Derived.Test.YtiidepafifodjabGreatOrdN
import Derived.Deep.RegionWith
/-! impl.Binary at the four comparisons. -/
namespace Go.Proofs.YtiidepafifodjabGreat
open Go.RowKit
attribute [local go_sem] run_store_float

/-- what a comparison gives -/
def ovc (c : Int) : Int := if c = 3 then 1 else 0
def ovk (c : Int) : Int := if c = 3 then 0 else 1
def ovn (op c : Int) : Int := if c = 3 then 0 else if (op = 15 ∧ c = -1) ∨ (op = 16 ∧ (c = -1 ∨ c = 0)) ∨ (op = 17 ∧ c = 1) ∨ (op = 18 ∧ (c = 1 ∨ c = 0)) then 1 else 0
abbrev ovV (op c : Int) : Value := gV (ovc c) (ovk c) (ovn op c) 0 ⟨#[]⟩ 0
set_option maxRecDepth 100000 in
set_option maxHeartbeats 8000000 in
theorem ordered_calls (op c : Int) (ho : op = 15 ∨ op = 16 ∨ op = 17 ∨ op = 18) (hc : c = -1 ∨ c = 0 ∨ c = 1 ∨ c = 2 ∨ c = 3) (w : World) :
    Calls Tryz.prog 63 #[.int .i64 op, .int .i64 c] w fun e w' => e = .returned (ovV op c) ∧ Below w.heap.size w w' := by
  rcases ho with rfl | rfl | rfl | rfl <;> rcases hc with rfl | rfl | rfl | rfl | rfl
  · rw [show ovV 15 (-1) = gV 0 1 1 0 ⟨#[]⟩ 0 from rfl]
    go_enter Tryz.func63, Tryz.ntmps63
    go_wp2_with (go_at_call 61; refine (gives_flagT _).mono ?_; rintro e w1 ⟨rfl, hb1⟩; obtain ⟨hc1, hf1⟩ := bcell hb1)
    exact bodyPost_ret (v := gV 0 1 1 0 ⟨#[]⟩ 0) (by simp [results, Tryz.results63, go_sem, hc1]) rfl ⟨rfl, set6 (below_call (below_alloc _ _) hb1) (Nat.le_refl _) _ _ _ _ _ _⟩
  · rw [show ovV 15 (0) = gV 0 1 0 0 ⟨#[]⟩ 0 from rfl]
    go_enter Tryz.func63, Tryz.ntmps63
    go_wp2_with (go_at_call 61; refine (gives_flagF _).mono ?_; rintro e w1 ⟨rfl, hb1⟩; obtain ⟨hc1, hf1⟩ := bcell hb1)
    exact bodyPost_ret (v := gV 0 1 0 0 ⟨#[]⟩ 0) (by simp [results, Tryz.results63, go_sem, hc1]) rfl ⟨rfl, set6 (below_call (below_alloc _ _) hb1) (Nat.le_refl _) _ _ _ _ _ _⟩
  · rw [show ovV 15 (1) = gV 0 1 0 0 ⟨#[]⟩ 0 from rfl]
    go_enter Tryz.func63, Tryz.ntmps63
    go_wp2_with (go_at_call 61; refine (gives_flagF _).mono ?_; rintro e w1 ⟨rfl, hb1⟩; obtain ⟨hc1, hf1⟩ := bcell hb1)
    exact bodyPost_ret (v := gV 0 1 0 0 ⟨#[]⟩ 0) (by simp [results, Tryz.results63, go_sem, hc1]) rfl ⟨rfl, set6 (below_call (below_alloc _ _) hb1) (Nat.le_refl _) _ _ _ _ _ _⟩
  · rw [show ovV 15 (2) = gV 0 1 0 0 ⟨#[]⟩ 0 from rfl]
    go_enter Tryz.func63, Tryz.ntmps63
    go_wp2_with (go_at_call 61; refine (gives_flagF _).mono ?_; rintro e w1 ⟨rfl, hb1⟩; obtain ⟨hc1, hf1⟩ := bcell hb1)
    exact bodyPost_ret (v := gV 0 1 0 0 ⟨#[]⟩ 0) (by simp [results, Tryz.results63, go_sem, hc1]) rfl ⟨rfl, set6 (below_call (below_alloc _ _) hb1) (Nat.le_refl _) _ _ _ _ _ _⟩
  · rw [show ovV 15 (3) = gV 1 0 0 0 ⟨#[]⟩ 0 from rfl]
    go_enter Tryz.func63, Tryz.ntmps63
    go_wp2_with (go_at_call 57; refine (failed_calls _ _).mono ?_; rintro e w1 ⟨rfl, hb1⟩; obtain ⟨hc1, hf1⟩ := bcell hb1)
    exact bodyPost_ret (v := gV 1 0 0 0 ⟨#[]⟩ 0) (by simp [results, Tryz.results63, go_sem, hc1]) rfl ⟨rfl, set6 (below_call (below_alloc _ _) hb1) (Nat.le_refl _) _ _ _ _ _ _⟩
  · rw [show ovV 16 (-1) = gV 0 1 1 0 ⟨#[]⟩ 0 from rfl]
    go_enter Tryz.func63, Tryz.ntmps63
    go_wp2_with (go_at_call 61; refine (gives_flagT _).mono ?_; rintro e w1 ⟨rfl, hb1⟩; obtain ⟨hc1, hf1⟩ := bcell hb1)
    exact bodyPost_ret (v := gV 0 1 1 0 ⟨#[]⟩ 0) (by simp [results, Tryz.results63, go_sem, hc1]) rfl ⟨rfl, set6 (below_call (below_alloc _ _) hb1) (Nat.le_refl _) _ _ _ _ _ _⟩
  · rw [show ovV 16 (0) = gV 0 1 1 0 ⟨#[]⟩ 0 from rfl]
    go_enter Tryz.func63, Tryz.ntmps63
    go_wp2_with (go_at_call 61; refine (gives_flagT _).mono ?_; rintro e w1 ⟨rfl, hb1⟩; obtain ⟨hc1, hf1⟩ := bcell hb1)
    exact bodyPost_ret (v := gV 0 1 1 0 ⟨#[]⟩ 0) (by simp [results, Tryz.results63, go_sem, hc1]) rfl ⟨rfl, set6 (below_call (below_alloc _ _) hb1) (Nat.le_refl _) _ _ _ _ _ _⟩
  · rw [show ovV 16 (1) = gV 0 1 0 0 ⟨#[]⟩ 0 from rfl]
    go_enter Tryz.func63, Tryz.ntmps63
    go_wp2_with (go_at_call 61; refine (gives_flagF _).mono ?_; rintro e w1 ⟨rfl, hb1⟩; obtain ⟨hc1, hf1⟩ := bcell hb1)
    exact bodyPost_ret (v := gV 0 1 0 0 ⟨#[]⟩ 0) (by simp [results, Tryz.results63, go_sem, hc1]) rfl ⟨rfl, set6 (below_call (below_alloc _ _) hb1) (Nat.le_refl _) _ _ _ _ _ _⟩
  · rw [show ovV 16 (2) = gV 0 1 0 0 ⟨#[]⟩ 0 from rfl]
    go_enter Tryz.func63, Tryz.ntmps63
    go_wp2_with (go_at_call 61; refine (gives_flagF _).mono ?_; rintro e w1 ⟨rfl, hb1⟩; obtain ⟨hc1, hf1⟩ := bcell hb1)
    exact bodyPost_ret (v := gV 0 1 0 0 ⟨#[]⟩ 0) (by simp [results, Tryz.results63, go_sem, hc1]) rfl ⟨rfl, set6 (below_call (below_alloc _ _) hb1) (Nat.le_refl _) _ _ _ _ _ _⟩
  · rw [show ovV 16 (3) = gV 1 0 0 0 ⟨#[]⟩ 0 from rfl]
    go_enter Tryz.func63, Tryz.ntmps63
    go_wp2_with (go_at_call 57; refine (failed_calls _ _).mono ?_; rintro e w1 ⟨rfl, hb1⟩; obtain ⟨hc1, hf1⟩ := bcell hb1)
    exact bodyPost_ret (v := gV 1 0 0 0 ⟨#[]⟩ 0) (by simp [results, Tryz.results63, go_sem, hc1]) rfl ⟨rfl, set6 (below_call (below_alloc _ _) hb1) (Nat.le_refl _) _ _ _ _ _ _⟩
  · rw [show ovV 17 (-1) = gV 0 1 0 0 ⟨#[]⟩ 0 from rfl]
    go_enter Tryz.func63, Tryz.ntmps63
    go_wp2_with (go_at_call 61; refine (gives_flagF _).mono ?_; rintro e w1 ⟨rfl, hb1⟩; obtain ⟨hc1, hf1⟩ := bcell hb1)
    exact bodyPost_ret (v := gV 0 1 0 0 ⟨#[]⟩ 0) (by simp [results, Tryz.results63, go_sem, hc1]) rfl ⟨rfl, set6 (below_call (below_alloc _ _) hb1) (Nat.le_refl _) _ _ _ _ _ _⟩
  · rw [show ovV 17 (0) = gV 0 1 0 0 ⟨#[]⟩ 0 from rfl]
    go_enter Tryz.func63, Tryz.ntmps63
    go_wp2_with (go_at_call 61; refine (gives_flagF _).mono ?_; rintro e w1 ⟨rfl, hb1⟩; obtain ⟨hc1, hf1⟩ := bcell hb1)
    exact bodyPost_ret (v := gV 0 1 0 0 ⟨#[]⟩ 0) (by simp [results, Tryz.results63, go_sem, hc1]) rfl ⟨rfl, set6 (below_call (below_alloc _ _) hb1) (Nat.le_refl _) _ _ _ _ _ _⟩
  · rw [show ovV 17 (1) = gV 0 1 1 0 ⟨#[]⟩ 0 from rfl]
    go_enter Tryz.func63, Tryz.ntmps63
    go_wp2_with (go_at_call 61; refine (gives_flagT _).mono ?_; rintro e w1 ⟨rfl, hb1⟩; obtain ⟨hc1, hf1⟩ := bcell hb1)
    exact bodyPost_ret (v := gV 0 1 1 0 ⟨#[]⟩ 0) (by simp [results, Tryz.results63, go_sem, hc1]) rfl ⟨rfl, set6 (below_call (below_alloc _ _) hb1) (Nat.le_refl _) _ _ _ _ _ _⟩
  · rw [show ovV 17 (2) = gV 0 1 0 0 ⟨#[]⟩ 0 from rfl]
    go_enter Tryz.func63, Tryz.ntmps63
    go_wp2_with (go_at_call 61; refine (gives_flagF _).mono ?_; rintro e w1 ⟨rfl, hb1⟩; obtain ⟨hc1, hf1⟩ := bcell hb1)
    exact bodyPost_ret (v := gV 0 1 0 0 ⟨#[]⟩ 0) (by simp [results, Tryz.results63, go_sem, hc1]) rfl ⟨rfl, set6 (below_call (below_alloc _ _) hb1) (Nat.le_refl _) _ _ _ _ _ _⟩
  · rw [show ovV 17 (3) = gV 1 0 0 0 ⟨#[]⟩ 0 from rfl]
    go_enter Tryz.func63, Tryz.ntmps63
    go_wp2_with (go_at_call 57; refine (failed_calls _ _).mono ?_; rintro e w1 ⟨rfl, hb1⟩; obtain ⟨hc1, hf1⟩ := bcell hb1)
    exact bodyPost_ret (v := gV 1 0 0 0 ⟨#[]⟩ 0) (by simp [results, Tryz.results63, go_sem, hc1]) rfl ⟨rfl, set6 (below_call (below_alloc _ _) hb1) (Nat.le_refl _) _ _ _ _ _ _⟩
  · rw [show ovV 18 (-1) = gV 0 1 0 0 ⟨#[]⟩ 0 from rfl]
    go_enter Tryz.func63, Tryz.ntmps63
    go_wp2_with (go_at_call 61; refine (gives_flagF _).mono ?_; rintro e w1 ⟨rfl, hb1⟩; obtain ⟨hc1, hf1⟩ := bcell hb1)
    exact bodyPost_ret (v := gV 0 1 0 0 ⟨#[]⟩ 0) (by simp [results, Tryz.results63, go_sem, hc1]) rfl ⟨rfl, set6 (below_call (below_alloc _ _) hb1) (Nat.le_refl _) _ _ _ _ _ _⟩
  · rw [show ovV 18 (0) = gV 0 1 1 0 ⟨#[]⟩ 0 from rfl]
    go_enter Tryz.func63, Tryz.ntmps63
    go_wp2_with (go_at_call 61; refine (gives_flagT _).mono ?_; rintro e w1 ⟨rfl, hb1⟩; obtain ⟨hc1, hf1⟩ := bcell hb1)
    exact bodyPost_ret (v := gV 0 1 1 0 ⟨#[]⟩ 0) (by simp [results, Tryz.results63, go_sem, hc1]) rfl ⟨rfl, set6 (below_call (below_alloc _ _) hb1) (Nat.le_refl _) _ _ _ _ _ _⟩
  · rw [show ovV 18 (1) = gV 0 1 1 0 ⟨#[]⟩ 0 from rfl]
    go_enter Tryz.func63, Tryz.ntmps63
    go_wp2_with (go_at_call 61; refine (gives_flagT _).mono ?_; rintro e w1 ⟨rfl, hb1⟩; obtain ⟨hc1, hf1⟩ := bcell hb1)
    exact bodyPost_ret (v := gV 0 1 1 0 ⟨#[]⟩ 0) (by simp [results, Tryz.results63, go_sem, hc1]) rfl ⟨rfl, set6 (below_call (below_alloc _ _) hb1) (Nat.le_refl _) _ _ _ _ _ _⟩
  · rw [show ovV 18 (2) = gV 0 1 0 0 ⟨#[]⟩ 0 from rfl]
    go_enter Tryz.func63, Tryz.ntmps63
    go_wp2_with (go_at_call 61; refine (gives_flagF _).mono ?_; rintro e w1 ⟨rfl, hb1⟩; obtain ⟨hc1, hf1⟩ := bcell hb1)
    exact bodyPost_ret (v := gV 0 1 0 0 ⟨#[]⟩ 0) (by simp [results, Tryz.results63, go_sem, hc1]) rfl ⟨rfl, set6 (below_call (below_alloc _ _) hb1) (Nat.le_refl _) _ _ _ _ _ _⟩
  · rw [show ovV 18 (3) = gV 1 0 0 0 ⟨#[]⟩ 0 from rfl]
    go_enter Tryz.func63, Tryz.ntmps63
    go_wp2_with (go_at_call 57; refine (failed_calls _ _).mono ?_; rintro e w1 ⟨rfl, hb1⟩; obtain ⟨hc1, hf1⟩ := bcell hb1)
    exact bodyPost_ret (v := gV 1 0 0 0 ⟨#[]⟩ 0) (by simp [results, Tryz.results63, go_sem, hc1]) rfl ⟨rfl, set6 (below_call (below_alloc _ _) hb1) (Nat.le_refl _) _ _ _ _ _ _⟩

set_option maxRecDepth 100000 in
set_option maxHeartbeats 8000000 in
theorem bin_calls (op : Int) (ho : op = 15 ∨ op = 16 ∨ op = 17 ∨ op = 18) (x y : VD) (hx : x.ok = true) (hy : y.ok = true) (wx : VW x) (wy : VW y) (w : World) :
    Calls Tryz.prog 24 #[.int .i64 op, x.v, y.v] w fun e w' => e = .returned (ovV op (x.cm y)) ∧ Below w.heap.size w w' := by
  obtain ⟨k, n, f, s, r⟩ := x
  obtain ⟨k', n', f', s', r'⟩ := y
  have hO : Hid (∀ w, Calls Tryz.prog 52 #[thW k n f s r, thW k' n' f' s' r'] w fun e w' => e = .returned (.int .i64 (cmG k n f s r k' n' f' s' r')) ∧ w' = w) := fun w => order_th k n f s r k' n' f' s' r' wx.f wy.f w
  have hg := cm_rng hx hy wx wy
  have hR : Hid (∀ w, Calls Tryz.prog 63 #[.int .i64 op, .int .i64 (cmG k n f s r k' n' f' s' r')] w fun e w' => e = .returned (ovV op (cmG k n f s r k' n' f' s' r')) ∧ Below w.heap.size w w') := fun w => ordered_calls op _ ho (by
    have h1 : -1 ≤ cmG k n f s r k' n' f' s' r' := hg.1
    have h2 : cmG k n f s r k' n' f' s' r' ≤ 3 := hg.2
    omega) w
  obtain ⟨t1, v1, e1⟩ := iface_ne_nil k n f s r hx
  obtain ⟨t2, v2, e2⟩ := iface_ne_nil k' n' f' s' r' hy
  have E1 : Hid (thW k n f s r = .iface t1 v1) := e1
  have E2 : Hid (thW k' n' f' s' r' = .iface t2 v2) := e2
  show Calls Tryz.prog 24 #[.int .i64 op, vOf k n f s r, vOf k' n' f' s' r'] w fun e w' => e = .returned (ovV op (cmG k n f s r k' n' f' s' r')) ∧ Below w.heap.size w w'
  rw [e1, e2] at hO
  generalize cmG k n f s r k' n' f' s' r' = c at *
  unfold ovV at *
  generalize ovc c = C at *
  generalize ovk c = K at *
  generalize ovn op c = M at *
  clear e1 e2 hg hx hy wx wy
  have hB : Below w.heap.size w w := Below.refl _ _
  rcases ho with rfl | rfl | rfl | rfl
  · go_enter Tryz.func24, Tryz.ntmps24
    go_wp2_with fail
    go_region_with (go_at_call 50; refine (th_calls _ _ _ _ _ _).mono ?_; rintro e w2 ⟨rfl, hb2⟩; obtain ⟨hc2, hf2⟩ := bcell hb2; have hz2 := hb2.size; (try simp at hz2); have hs2 : w.heap.size + 2 < w2.heap.size := (by omega); (first | replace hB := below_call hB hb2 | replace hB := below_call (below_a hB _) hb2 | replace hB := below_call (below_a (below_a hB _) _) hb2 | replace hB := below_call (below_a (below_a (below_a hB _) _) _) hb2 | replace hB := below_call (below_a (below_a (below_a (below_a hB _) _) _) _) hb2 | replace hB := below_call hB.drew hb2 | replace hB := below_call (below_a hB _).drew hb2 | replace hB := below_call (below_a (below_a hB _) _).drew hb2 | replace hB := below_call (below_a (below_a (below_a hB _) _) _).drew hb2 | replace hB := below_call (below_a (below_a (below_a (below_a hB _) _) _) _).drew hb2 | replace hB := below_call (below_a hB.drew _) hb2 | replace hB := below_call (below_a (below_a hB.drew _) _) hb2 | replace hB := below_call (below_a (below_a hB _).drew _) hb2 | replace hB := below_call (below_a (below_a (below_a hB.drew _) _) _) hb2); clear hb2)
    all_goals rw [E1.out, E2.out]
    all_goals go_wp2_with (first | (go_at_call 52; refine (hO.out _).mono ?_; rintro e w3 ⟨rfl, rfl⟩) | (go_at_call 63; refine (hR.out _).mono ?_; rintro e w2 ⟨rfl, hb2⟩; obtain ⟨hc2, hf2⟩ := bcell hb2; have hz2 := hb2.size; (try simp at hz2); have hs2 : w.heap.size + 2 < w2.heap.size := (by omega); (first | replace hB := below_call hB hb2 | replace hB := below_call (below_a hB _) hb2 | replace hB := below_call (below_a (below_a hB _) _) hb2 | replace hB := below_call (below_a (below_a (below_a hB _) _) _) hb2 | replace hB := below_call (below_a (below_a (below_a (below_a hB _) _) _) _) hb2 | replace hB := below_call hB.drew hb2 | replace hB := below_call (below_a hB _).drew hb2 | replace hB := below_call (below_a (below_a hB _) _).drew hb2 | replace hB := below_call (below_a (below_a (below_a hB _) _) _).drew hb2 | replace hB := below_call (below_a (below_a (below_a (below_a hB _) _) _) _).drew hb2 | replace hB := below_call (below_a hB.drew _) hb2 | replace hB := below_call (below_a (below_a hB.drew _) _) hb2 | replace hB := below_call (below_a (below_a hB _).drew _) hb2 | replace hB := below_call (below_a (below_a (below_a hB.drew _) _) _) hb2); clear hb2))
    all_goals exact bodyPost_ret (v := gV C K M 0 ⟨#[]⟩ 0) (by simp [results, Tryz.results24, go_sem, *]) rfl ⟨rfl, set6 hB (Nat.le_add_right _ 2) _ _ _ _ _ _⟩
  · go_enter Tryz.func24, Tryz.ntmps24
    go_wp2_with fail
    go_region_with (go_at_call 50; refine (th_calls _ _ _ _ _ _).mono ?_; rintro e w2 ⟨rfl, hb2⟩; obtain ⟨hc2, hf2⟩ := bcell hb2; have hz2 := hb2.size; (try simp at hz2); have hs2 : w.heap.size + 2 < w2.heap.size := (by omega); (first | replace hB := below_call hB hb2 | replace hB := below_call (below_a hB _) hb2 | replace hB := below_call (below_a (below_a hB _) _) hb2 | replace hB := below_call (below_a (below_a (below_a hB _) _) _) hb2 | replace hB := below_call (below_a (below_a (below_a (below_a hB _) _) _) _) hb2 | replace hB := below_call hB.drew hb2 | replace hB := below_call (below_a hB _).drew hb2 | replace hB := below_call (below_a (below_a hB _) _).drew hb2 | replace hB := below_call (below_a (below_a (below_a hB _) _) _).drew hb2 | replace hB := below_call (below_a (below_a (below_a (below_a hB _) _) _) _).drew hb2 | replace hB := below_call (below_a hB.drew _) hb2 | replace hB := below_call (below_a (below_a hB.drew _) _) hb2 | replace hB := below_call (below_a (below_a hB _).drew _) hb2 | replace hB := below_call (below_a (below_a (below_a hB.drew _) _) _) hb2); clear hb2)
    all_goals rw [E1.out, E2.out]
    all_goals go_wp2_with (first | (go_at_call 52; refine (hO.out _).mono ?_; rintro e w3 ⟨rfl, rfl⟩) | (go_at_call 63; refine (hR.out _).mono ?_; rintro e w2 ⟨rfl, hb2⟩; obtain ⟨hc2, hf2⟩ := bcell hb2; have hz2 := hb2.size; (try simp at hz2); have hs2 : w.heap.size + 2 < w2.heap.size := (by omega); (first | replace hB := below_call hB hb2 | replace hB := below_call (below_a hB _) hb2 | replace hB := below_call (below_a (below_a hB _) _) hb2 | replace hB := below_call (below_a (below_a (below_a hB _) _) _) hb2 | replace hB := below_call (below_a (below_a (below_a (below_a hB _) _) _) _) hb2 | replace hB := below_call hB.drew hb2 | replace hB := below_call (below_a hB _).drew hb2 | replace hB := below_call (below_a (below_a hB _) _).drew hb2 | replace hB := below_call (below_a (below_a (below_a hB _) _) _).drew hb2 | replace hB := below_call (below_a (below_a (below_a (below_a hB _) _) _) _).drew hb2 | replace hB := below_call (below_a hB.drew _) hb2 | replace hB := below_call (below_a (below_a hB.drew _) _) hb2 | replace hB := below_call (below_a (below_a hB _).drew _) hb2 | replace hB := below_call (below_a (below_a (below_a hB.drew _) _) _) hb2); clear hb2))
    all_goals exact bodyPost_ret (v := gV C K M 0 ⟨#[]⟩ 0) (by simp [results, Tryz.results24, go_sem, *]) rfl ⟨rfl, set6 hB (Nat.le_add_right _ 2) _ _ _ _ _ _⟩
  · go_enter Tryz.func24, Tryz.ntmps24
    go_wp2_with fail
    go_region_with (go_at_call 50; refine (th_calls _ _ _ _ _ _).mono ?_; rintro e w2 ⟨rfl, hb2⟩; obtain ⟨hc2, hf2⟩ := bcell hb2; have hz2 := hb2.size; (try simp at hz2); have hs2 : w.heap.size + 2 < w2.heap.size := (by omega); (first | replace hB := below_call hB hb2 | replace hB := below_call (below_a hB _) hb2 | replace hB := below_call (below_a (below_a hB _) _) hb2 | replace hB := below_call (below_a (below_a (below_a hB _) _) _) hb2 | replace hB := below_call (below_a (below_a (below_a (below_a hB _) _) _) _) hb2 | replace hB := below_call hB.drew hb2 | replace hB := below_call (below_a hB _).drew hb2 | replace hB := below_call (below_a (below_a hB _) _).drew hb2 | replace hB := below_call (below_a (below_a (below_a hB _) _) _).drew hb2 | replace hB := below_call (below_a (below_a (below_a (below_a hB _) _) _) _).drew hb2 | replace hB := below_call (below_a hB.drew _) hb2 | replace hB := below_call (below_a (below_a hB.drew _) _) hb2 | replace hB := below_call (below_a (below_a hB _).drew _) hb2 | replace hB := below_call (below_a (below_a (below_a hB.drew _) _) _) hb2); clear hb2)
    all_goals rw [E1.out, E2.out]
    all_goals go_wp2_with (first | (go_at_call 52; refine (hO.out _).mono ?_; rintro e w3 ⟨rfl, rfl⟩) | (go_at_call 63; refine (hR.out _).mono ?_; rintro e w2 ⟨rfl, hb2⟩; obtain ⟨hc2, hf2⟩ := bcell hb2; have hz2 := hb2.size; (try simp at hz2); have hs2 : w.heap.size + 2 < w2.heap.size := (by omega); (first | replace hB := below_call hB hb2 | replace hB := below_call (below_a hB _) hb2 | replace hB := below_call (below_a (below_a hB _) _) hb2 | replace hB := below_call (below_a (below_a (below_a hB _) _) _) hb2 | replace hB := below_call (below_a (below_a (below_a (below_a hB _) _) _) _) hb2 | replace hB := below_call hB.drew hb2 | replace hB := below_call (below_a hB _).drew hb2 | replace hB := below_call (below_a (below_a hB _) _).drew hb2 | replace hB := below_call (below_a (below_a (below_a hB _) _) _).drew hb2 | replace hB := below_call (below_a (below_a (below_a (below_a hB _) _) _) _).drew hb2 | replace hB := below_call (below_a hB.drew _) hb2 | replace hB := below_call (below_a (below_a hB.drew _) _) hb2 | replace hB := below_call (below_a (below_a hB _).drew _) hb2 | replace hB := below_call (below_a (below_a (below_a hB.drew _) _) _) hb2); clear hb2))
    all_goals exact bodyPost_ret (v := gV C K M 0 ⟨#[]⟩ 0) (by simp [results, Tryz.results24, go_sem, *]) rfl ⟨rfl, set6 hB (Nat.le_add_right _ 2) _ _ _ _ _ _⟩
  · go_enter Tryz.func24, Tryz.ntmps24
    go_wp2_with fail
    go_region_with (go_at_call 50; refine (th_calls _ _ _ _ _ _).mono ?_; rintro e w2 ⟨rfl, hb2⟩; obtain ⟨hc2, hf2⟩ := bcell hb2; have hz2 := hb2.size; (try simp at hz2); have hs2 : w.heap.size + 2 < w2.heap.size := (by omega); (first | replace hB := below_call hB hb2 | replace hB := below_call (below_a hB _) hb2 | replace hB := below_call (below_a (below_a hB _) _) hb2 | replace hB := below_call (below_a (below_a (below_a hB _) _) _) hb2 | replace hB := below_call (below_a (below_a (below_a (below_a hB _) _) _) _) hb2 | replace hB := below_call hB.drew hb2 | replace hB := below_call (below_a hB _).drew hb2 | replace hB := below_call (below_a (below_a hB _) _).drew hb2 | replace hB := below_call (below_a (below_a (below_a hB _) _) _).drew hb2 | replace hB := below_call (below_a (below_a (below_a (below_a hB _) _) _) _).drew hb2 | replace hB := below_call (below_a hB.drew _) hb2 | replace hB := below_call (below_a (below_a hB.drew _) _) hb2 | replace hB := below_call (below_a (below_a hB _).drew _) hb2 | replace hB := below_call (below_a (below_a (below_a hB.drew _) _) _) hb2); clear hb2)
    all_goals rw [E1.out, E2.out]
    all_goals go_wp2_with (first | (go_at_call 52; refine (hO.out _).mono ?_; rintro e w3 ⟨rfl, rfl⟩) | (go_at_call 63; refine (hR.out _).mono ?_; rintro e w2 ⟨rfl, hb2⟩; obtain ⟨hc2, hf2⟩ := bcell hb2; have hz2 := hb2.size; (try simp at hz2); have hs2 : w.heap.size + 2 < w2.heap.size := (by omega); (first | replace hB := below_call hB hb2 | replace hB := below_call (below_a hB _) hb2 | replace hB := below_call (below_a (below_a hB _) _) hb2 | replace hB := below_call (below_a (below_a (below_a hB _) _) _) hb2 | replace hB := below_call (below_a (below_a (below_a (below_a hB _) _) _) _) hb2 | replace hB := below_call hB.drew hb2 | replace hB := below_call (below_a hB _).drew hb2 | replace hB := below_call (below_a (below_a hB _) _).drew hb2 | replace hB := below_call (below_a (below_a (below_a hB _) _) _).drew hb2 | replace hB := below_call (below_a (below_a (below_a (below_a hB _) _) _) _).drew hb2 | replace hB := below_call (below_a hB.drew _) hb2 | replace hB := below_call (below_a (below_a hB.drew _) _) hb2 | replace hB := below_call (below_a (below_a hB _).drew _) hb2 | replace hB := below_call (below_a (below_a (below_a hB.drew _) _) _) hb2); clear hb2))
    all_goals exact bodyPost_ret (v := gV C K M 0 ⟨#[]⟩ 0) (by simp [results, Tryz.results24, go_sem, *]) rfl ⟨rfl, set6 hB (Nat.le_add_right _ 2) _ _ _ _ _ _⟩
end Go.Proofs.YtiidepafifodjabGreat
