import Derived.Test.YtcpjnddkibbddaaGreatFitQ
import Derived.Test.YtcpjnddkibbddaaGreatImD
import Derived.Test.YtcpjnddkibbddaaGreatFloor
/-! The program's check of a unit: forms. -/
namespace Go.Proofs.YtcpjnddkibbddaaGreat
open Go.RowKit
attribute [local go_sem] run_store_float
attribute [local go_sem ↓] Go.wp_at_zero Go.wp_at_succ

set_option maxRecDepth 100000 in
set_option maxHeartbeats 8000000 in
theorem fo_block (F m : Nat) (nd : Nat → ND) (nas : Nat → NA) (w : World) (hA : AH w F m nd nas) (hN : NodeAt 0 w (nd m) (nas m)) (hs : (nd m).sm) (_hcap : (nd m).kn ≤ (nas m).kc) :
    Calls Tryz.prog 86 #[.pointer (some ⟨F, 0, none⟩), nodeV (nd m) (nas m)] w fun e w' => e = .returned (.bool (uoB (nd m) false false false false false true && (allS sSt nd m 0 (nd m).kn))) ∧ Below w.heap.size w w' := by
  have HA : Hid (AH w F m nd nas) := hA
  have HN : Hid (NodeAt 0 w (nd m) (nas m)) := hN
  have hkn := hs.kn
  have hrn := hs.rn
  have hsz := hs.s
  clear hA hN hs
  go_enter Tryz.func86, Tryz.ntmps86
  go_wp2_with (first | (go_at_call 145; refine (uo32_calls (nd m) (nas m) _).mono ?_; rintro e w2 ⟨rfl, hb2⟩; have HB2 : Hid (Below w.heap.size w w2) := below_call (below_alloc _ _) hb2; have n2 : w2.cell? ⟨w.heap.size, 2, none⟩ = some (.int .i64 (nd m).o) := (Has.made hb2).cell 2 rfl; have n3 : w2.cell? ⟨w.heap.size, 3, none⟩ = some (.int .i64 (nd m).n) := (Has.made hb2).cell 3 rfl; have n4 : w2.cell? ⟨w.heap.size, 4, none⟩ = some (.float .f64 (nd m).f) := (Has.made hb2).cell 4 rfl; have n5 : w2.cell? ⟨w.heap.size, 5, none⟩ = some (.string (nd m).s) := (Has.made hb2).cell 5 rfl; have n6 : w2.cell? ⟨w.heap.size, 6, none⟩ = some (.slice (nas m).ra (nd m).rn (nas m).rc) := (Has.made hb2).cell 6 rfl; have n7 : w2.cell? ⟨w.heap.size, 7, none⟩ = some (.slice (nas m).ka (nd m).kn (nas m).kc) := (Has.made hb2).cell 7 rfl; have hz2 : w.heap.size < w2.heap.size := (Has.made hb2).lt; clear hb2) | (go_at_call 146; refine (all_calls F m nd nas _ _ _ (nd m).c 32766 _ (by decide) (by omega) (HA.out.below HB2.out) (RowN.below HN.out.2 HB2.out)).mono ?_; rintro e w1 ⟨rfl, rfl⟩))
  all_goals go_ret
  all_goals refine ⟨ret_bool ?_, by first | exact HB2.out | exact below_a' HB2.out _ | exact below_a' (below_a' HB2.out _) _⟩
  all_goals first | rfl | (simp [allS, *]; done) | (simp [allS, *]; omega) | (simp [allS, *]; intros; omega)

set_option maxRecDepth 100000 in
set_option maxHeartbeats 8000000 in
theorem fo_let (F m : Nat) (nd : Nat → ND) (nas : Nat → NA) (w : World) (hA : AH w F m nd nas) (hN : NodeAt 0 w (nd m) (nas m)) (hs : (nd m).sm) (_hcap : (nd m).kn ≤ (nas m).kc) :
    Calls Tryz.prog 87 #[.pointer (some ⟨F, 0, none⟩), nodeV (nd m) (nas m)] w fun e w' => e = .returned (.bool (uoB (nd m) false false false false true true && (decide (0 < (nd m).rn) && allS sEx nd m 0 (nd m).kn))) ∧ Below w.heap.size w w' := by
  have HA : Hid (AH w F m nd nas) := hA
  have HN : Hid (NodeAt 0 w (nd m) (nas m)) := hN
  have hkn := hs.kn
  have hrn := hs.rn
  have hsz := hs.s
  clear hA hN hs
  go_enter Tryz.func87, Tryz.ntmps87
  go_wp2_with (first | (go_at_call 145; refine (uo48_calls (nd m) (nas m) _).mono ?_; rintro e w2 ⟨rfl, hb2⟩; have HB2 : Hid (Below w.heap.size w w2) := below_call (below_alloc _ _) hb2; have n2 : w2.cell? ⟨w.heap.size, 2, none⟩ = some (.int .i64 (nd m).o) := (Has.made hb2).cell 2 rfl; have n3 : w2.cell? ⟨w.heap.size, 3, none⟩ = some (.int .i64 (nd m).n) := (Has.made hb2).cell 3 rfl; have n4 : w2.cell? ⟨w.heap.size, 4, none⟩ = some (.float .f64 (nd m).f) := (Has.made hb2).cell 4 rfl; have n5 : w2.cell? ⟨w.heap.size, 5, none⟩ = some (.string (nd m).s) := (Has.made hb2).cell 5 rfl; have n6 : w2.cell? ⟨w.heap.size, 6, none⟩ = some (.slice (nas m).ra (nd m).rn (nas m).rc) := (Has.made hb2).cell 6 rfl; have n7 : w2.cell? ⟨w.heap.size, 7, none⟩ = some (.slice (nas m).ka (nd m).kn (nas m).kc) := (Has.made hb2).cell 7 rfl; have hz2 : w.heap.size < w2.heap.size := (Has.made hb2).lt; clear hb2) | (go_at_call 146; refine (all_calls F m nd nas _ _ _ (nd m).c 549754765312 _ (by decide) (by omega) (HA.out.below HB2.out) (RowN.below HN.out.2 HB2.out)).mono ?_; rintro e w1 ⟨rfl, rfl⟩))
  all_goals go_ret
  all_goals refine ⟨ret_bool ?_, by first | exact HB2.out | exact below_a' HB2.out _ | exact below_a' (below_a' HB2.out _) _⟩
  all_goals first | rfl | (simp [allS, *]; done) | (simp [allS, *]; omega) | (simp [allS, *]; intros; omega)

set_option maxRecDepth 100000 in
set_option maxHeartbeats 8000000 in
theorem fo_bare (F m : Nat) (nd : Nat → ND) (nas : Nat → NA) (w : World) (hA : AH w F m nd nas) (hN : NodeAt 0 w (nd m) (nas m)) (hs : (nd m).sm) (_hcap : (nd m).kn ≤ (nas m).kc) :
    Calls Tryz.prog 94 #[.pointer (some ⟨F, 0, none⟩), nodeV (nd m) (nas m)] w fun e w' => e = .returned (.bool (uoB (nd m) false false false false false false)) ∧ Below w.heap.size w w' := by
  have HA : Hid (AH w F m nd nas) := hA
  have HN : Hid (NodeAt 0 w (nd m) (nas m)) := hN
  have hkn := hs.kn
  have hrn := hs.rn
  have hsz := hs.s
  clear hA hN hs
  go_enter Tryz.func94, Tryz.ntmps94
  go_wp2_with (go_at_call 145; refine (uo0_calls (nd m) (nas m) _).mono ?_; rintro e w2 ⟨rfl, hb2⟩; have HB2 : Hid (Below w.heap.size w w2) := below_call (below_alloc _ _) hb2; have n2 : w2.cell? ⟨w.heap.size, 2, none⟩ = some (.int .i64 (nd m).o) := (Has.made hb2).cell 2 rfl; have n3 : w2.cell? ⟨w.heap.size, 3, none⟩ = some (.int .i64 (nd m).n) := (Has.made hb2).cell 3 rfl; have n4 : w2.cell? ⟨w.heap.size, 4, none⟩ = some (.float .f64 (nd m).f) := (Has.made hb2).cell 4 rfl; have n5 : w2.cell? ⟨w.heap.size, 5, none⟩ = some (.string (nd m).s) := (Has.made hb2).cell 5 rfl; have n6 : w2.cell? ⟨w.heap.size, 6, none⟩ = some (.slice (nas m).ra (nd m).rn (nas m).rc) := (Has.made hb2).cell 6 rfl; have n7 : w2.cell? ⟨w.heap.size, 7, none⟩ = some (.slice (nas m).ka (nd m).kn (nas m).kc) := (Has.made hb2).cell 7 rfl; have hz2 : w.heap.size < w2.heap.size := (Has.made hb2).lt; clear hb2)
  all_goals go_ret
  all_goals refine ⟨ret_bool ?_, by first | exact HB2.out | exact below_a' HB2.out _ | exact below_a' (below_a' HB2.out _) _⟩
  all_goals first | rfl | (simp [*]; done) | (simp [*]; omega) | (simp [*]; intros; omega)

set_option maxRecDepth 100000 in
set_option maxHeartbeats 8000000 in
theorem fo_results (F m : Nat) (nd : Nat → ND) (nas : Nat → NA) (w : World) (hA : AH w F m nd nas) (hN : NodeAt 0 w (nd m) (nas m)) (hs : (nd m).sm) (_hcap : (nd m).kn ≤ (nas m).kc) :
    Calls Tryz.prog 95 #[.pointer (some ⟨F, 0, none⟩), nodeV (nd m) (nas m)] w fun e w' => e = .returned (.bool (uoB (nd m) false false false false false true && (allS sEx nd m 0 (nd m).kn))) ∧ Below w.heap.size w w' := by
  have HA : Hid (AH w F m nd nas) := hA
  have HN : Hid (NodeAt 0 w (nd m) (nas m)) := hN
  have hkn := hs.kn
  have hrn := hs.rn
  have hsz := hs.s
  clear hA hN hs
  go_enter Tryz.func95, Tryz.ntmps95
  go_wp2_with (first | (go_at_call 145; refine (uo32_calls (nd m) (nas m) _).mono ?_; rintro e w2 ⟨rfl, hb2⟩; have HB2 : Hid (Below w.heap.size w w2) := below_call (below_alloc _ _) hb2; have n2 : w2.cell? ⟨w.heap.size, 2, none⟩ = some (.int .i64 (nd m).o) := (Has.made hb2).cell 2 rfl; have n3 : w2.cell? ⟨w.heap.size, 3, none⟩ = some (.int .i64 (nd m).n) := (Has.made hb2).cell 3 rfl; have n4 : w2.cell? ⟨w.heap.size, 4, none⟩ = some (.float .f64 (nd m).f) := (Has.made hb2).cell 4 rfl; have n5 : w2.cell? ⟨w.heap.size, 5, none⟩ = some (.string (nd m).s) := (Has.made hb2).cell 5 rfl; have n6 : w2.cell? ⟨w.heap.size, 6, none⟩ = some (.slice (nas m).ra (nd m).rn (nas m).rc) := (Has.made hb2).cell 6 rfl; have n7 : w2.cell? ⟨w.heap.size, 7, none⟩ = some (.slice (nas m).ka (nd m).kn (nas m).kc) := (Has.made hb2).cell 7 rfl; have hz2 : w.heap.size < w2.heap.size := (Has.made hb2).lt; clear hb2) | (go_at_call 146; refine (all_calls F m nd nas _ _ _ (nd m).c 549754765312 _ (by decide) (by omega) (HA.out.below HB2.out) (RowN.below HN.out.2 HB2.out)).mono ?_; rintro e w1 ⟨rfl, rfl⟩))
  all_goals go_ret
  all_goals refine ⟨ret_bool ?_, by first | exact HB2.out | exact below_a' HB2.out _ | exact below_a' (below_a' HB2.out _) _⟩
  all_goals first | rfl | (simp [allS, *]; done) | (simp [allS, *]; omega) | (simp [allS, *]; intros; omega)

set_option maxRecDepth 100000 in
set_option maxHeartbeats 8000000 in
theorem fo_integer (F m : Nat) (nd : Nat → ND) (nas : Nat → NA) (w : World) (hA : AH w F m nd nas) (hN : NodeAt 0 w (nd m) (nas m)) (hs : (nd m).sm) (_hcap : (nd m).kn ≤ (nas m).kc) :
    Calls Tryz.prog 98 #[.pointer (some ⟨F, 0, none⟩), nodeV (nd m) (nas m)] w fun e w' => e = .returned (.bool (uoB (nd m) false true false false false false)) ∧ Below w.heap.size w w' := by
  have HA : Hid (AH w F m nd nas) := hA
  have HN : Hid (NodeAt 0 w (nd m) (nas m)) := hN
  have hkn := hs.kn
  have hrn := hs.rn
  have hsz := hs.s
  clear hA hN hs
  go_enter Tryz.func98, Tryz.ntmps98
  go_wp2_with (go_at_call 145; refine (uo2_calls (nd m) (nas m) _).mono ?_; rintro e w2 ⟨rfl, hb2⟩; have HB2 : Hid (Below w.heap.size w w2) := below_call (below_alloc _ _) hb2; have n2 : w2.cell? ⟨w.heap.size, 2, none⟩ = some (.int .i64 (nd m).o) := (Has.made hb2).cell 2 rfl; have n3 : w2.cell? ⟨w.heap.size, 3, none⟩ = some (.int .i64 (nd m).n) := (Has.made hb2).cell 3 rfl; have n4 : w2.cell? ⟨w.heap.size, 4, none⟩ = some (.float .f64 (nd m).f) := (Has.made hb2).cell 4 rfl; have n5 : w2.cell? ⟨w.heap.size, 5, none⟩ = some (.string (nd m).s) := (Has.made hb2).cell 5 rfl; have n6 : w2.cell? ⟨w.heap.size, 6, none⟩ = some (.slice (nas m).ra (nd m).rn (nas m).rc) := (Has.made hb2).cell 6 rfl; have n7 : w2.cell? ⟨w.heap.size, 7, none⟩ = some (.slice (nas m).ka (nd m).kn (nas m).kc) := (Has.made hb2).cell 7 rfl; have hz2 : w.heap.size < w2.heap.size := (Has.made hb2).lt; clear hb2)
  all_goals go_ret
  all_goals refine ⟨ret_bool ?_, by first | exact HB2.out | exact below_a' HB2.out _ | exact below_a' (below_a' HB2.out _) _⟩
  all_goals first | rfl | (simp [*]; done) | (simp [*]; omega) | (simp [*]; intros; omega)

set_option maxRecDepth 100000 in
set_option maxHeartbeats 8000000 in
theorem fo_text (F m : Nat) (nd : Nat → ND) (nas : Nat → NA) (w : World) (hA : AH w F m nd nas) (hN : NodeAt 0 w (nd m) (nas m)) (hs : (nd m).sm) (_hcap : (nd m).kn ≤ (nas m).kc) :
    Calls Tryz.prog 100 #[.pointer (some ⟨F, 0, none⟩), nodeV (nd m) (nas m)] w fun e w' => e = .returned (.bool (uoB (nd m) false false false true false false && (decide (((nd m).s.size : Int) ≤ 4000)))) ∧ Below w.heap.size w w' := by
  have HA : Hid (AH w F m nd nas) := hA
  have HN : Hid (NodeAt 0 w (nd m) (nas m)) := hN
  have hkn := hs.kn
  have hrn := hs.rn
  have hsz := hs.s
  clear hA hN hs
  go_enter Tryz.func100, Tryz.ntmps100
  go_wp2_with (go_at_call 145; refine (uo8_calls (nd m) (nas m) _).mono ?_; rintro e w2 ⟨rfl, hb2⟩; have HB2 : Hid (Below w.heap.size w w2) := below_call (below_alloc _ _) hb2; have n2 : w2.cell? ⟨w.heap.size, 2, none⟩ = some (.int .i64 (nd m).o) := (Has.made hb2).cell 2 rfl; have n3 : w2.cell? ⟨w.heap.size, 3, none⟩ = some (.int .i64 (nd m).n) := (Has.made hb2).cell 3 rfl; have n4 : w2.cell? ⟨w.heap.size, 4, none⟩ = some (.float .f64 (nd m).f) := (Has.made hb2).cell 4 rfl; have n5 : w2.cell? ⟨w.heap.size, 5, none⟩ = some (.string (nd m).s) := (Has.made hb2).cell 5 rfl; have n6 : w2.cell? ⟨w.heap.size, 6, none⟩ = some (.slice (nas m).ra (nd m).rn (nas m).rc) := (Has.made hb2).cell 6 rfl; have n7 : w2.cell? ⟨w.heap.size, 7, none⟩ = some (.slice (nas m).ka (nd m).kn (nas m).kc) := (Has.made hb2).cell 7 rfl; have hz2 : w.heap.size < w2.heap.size := (Has.made hb2).lt; clear hb2)
  all_goals go_ret
  all_goals refine ⟨ret_bool ?_, by first | exact HB2.out | exact below_a' HB2.out _ | exact below_a' (below_a' HB2.out _) _⟩
  all_goals first | rfl | (simp [*]; done) | (simp [*]; omega) | (simp [*]; intros; omega)

set_option maxRecDepth 100000 in
set_option maxHeartbeats 8000000 in
theorem fo_oneRef (F m : Nat) (nd : Nat → ND) (nas : Nat → NA) (w : World) (hA : AH w F m nd nas) (hN : NodeAt 0 w (nd m) (nas m)) (hs : (nd m).sm) (_hcap : (nd m).kn ≤ (nas m).kc) :
    Calls Tryz.prog 101 #[.pointer (some ⟨F, 0, none⟩), nodeV (nd m) (nas m)] w fun e w' => e = .returned (.bool (uoB (nd m) false false false false true false && (((nd m).rn : Int) == 1))) ∧ Below w.heap.size w w' := by
  have HA : Hid (AH w F m nd nas) := hA
  have HN : Hid (NodeAt 0 w (nd m) (nas m)) := hN
  have hkn := hs.kn
  have hrn := hs.rn
  have hsz := hs.s
  clear hA hN hs
  go_enter Tryz.func101, Tryz.ntmps101
  go_wp2_with (go_at_call 145; refine (uo16_calls (nd m) (nas m) _).mono ?_; rintro e w2 ⟨rfl, hb2⟩; have HB2 : Hid (Below w.heap.size w w2) := below_call (below_alloc _ _) hb2; have n2 : w2.cell? ⟨w.heap.size, 2, none⟩ = some (.int .i64 (nd m).o) := (Has.made hb2).cell 2 rfl; have n3 : w2.cell? ⟨w.heap.size, 3, none⟩ = some (.int .i64 (nd m).n) := (Has.made hb2).cell 3 rfl; have n4 : w2.cell? ⟨w.heap.size, 4, none⟩ = some (.float .f64 (nd m).f) := (Has.made hb2).cell 4 rfl; have n5 : w2.cell? ⟨w.heap.size, 5, none⟩ = some (.string (nd m).s) := (Has.made hb2).cell 5 rfl; have n6 : w2.cell? ⟨w.heap.size, 6, none⟩ = some (.slice (nas m).ra (nd m).rn (nas m).rc) := (Has.made hb2).cell 6 rfl; have n7 : w2.cell? ⟨w.heap.size, 7, none⟩ = some (.slice (nas m).ka (nd m).kn (nas m).kc) := (Has.made hb2).cell 7 rfl; have hz2 : w.heap.size < w2.heap.size := (Has.made hb2).lt; clear hb2)
  all_goals go_ret
  all_goals refine ⟨ret_bool ?_, by first | exact HB2.out | exact below_a' HB2.out _ | exact below_a' (below_a' HB2.out _) _⟩
  all_goals first | rfl | (simp [*]; done) | (simp [*]; omega) | (simp [*]; intros; omega)

set_option maxRecDepth 100000 in
set_option maxHeartbeats 8000000 in
theorem fo_builtin (F m : Nat) (nd : Nat → ND) (nas : Nat → NA) (w : World) (hA : AH w F m nd nas) (hN : NodeAt 0 w (nd m) (nas m)) (hs : (nd m).sm) (_hcap : (nd m).kn ≤ (nas m).kc) :
    Calls Tryz.prog 102 #[.pointer (some ⟨F, 0, none⟩), nodeV (nd m) (nas m)] w fun e w' => e = .returned (.bool (uoB (nd m) false true false false false false && (decide (0 ≤ (nd m).n) && decide ((nd m).n < 15)))) ∧ Below w.heap.size w w' := by
  have HA : Hid (AH w F m nd nas) := hA
  have HN : Hid (NodeAt 0 w (nd m) (nas m)) := hN
  have hkn := hs.kn
  have hrn := hs.rn
  have hsz := hs.s
  clear hA hN hs
  go_enter Tryz.func102, Tryz.ntmps102
  go_wp2_with (go_at_call 145; refine (uo2_calls (nd m) (nas m) _).mono ?_; rintro e w2 ⟨rfl, hb2⟩; have HB2 : Hid (Below w.heap.size w w2) := below_call (below_alloc _ _) hb2; have n2 : w2.cell? ⟨w.heap.size, 2, none⟩ = some (.int .i64 (nd m).o) := (Has.made hb2).cell 2 rfl; have n3 : w2.cell? ⟨w.heap.size, 3, none⟩ = some (.int .i64 (nd m).n) := (Has.made hb2).cell 3 rfl; have n4 : w2.cell? ⟨w.heap.size, 4, none⟩ = some (.float .f64 (nd m).f) := (Has.made hb2).cell 4 rfl; have n5 : w2.cell? ⟨w.heap.size, 5, none⟩ = some (.string (nd m).s) := (Has.made hb2).cell 5 rfl; have n6 : w2.cell? ⟨w.heap.size, 6, none⟩ = some (.slice (nas m).ra (nd m).rn (nas m).rc) := (Has.made hb2).cell 6 rfl; have n7 : w2.cell? ⟨w.heap.size, 7, none⟩ = some (.slice (nas m).ka (nd m).kn (nas m).kc) := (Has.made hb2).cell 7 rfl; have hz2 : w.heap.size < w2.heap.size := (Has.made hb2).lt; clear hb2)
  all_goals go_ret
  all_goals refine ⟨ret_bool ?_, by first | exact HB2.out | exact below_a' HB2.out _ | exact below_a' (below_a' HB2.out _) _⟩
  all_goals first | rfl | (simp [*]; done) | (simp [*]; omega) | (simp [*]; intros; omega)

set_option maxRecDepth 100000 in
set_option maxHeartbeats 8000000 in
theorem fo_call (F m : Nat) (nd : Nat → ND) (nas : Nat → NA) (w : World) (hA : AH w F m nd nas) (hN : NodeAt 0 w (nd m) (nas m)) (hs : (nd m).sm) (_hcap : (nd m).kn ≤ (nas m).kc) :
    Calls Tryz.prog 106 #[.pointer (some ⟨F, 0, none⟩), nodeV (nd m) (nas m)] w fun e w' => e = .returned (.bool (uoB (nd m) false false false false false true && (decide (0 < (nd m).kn) && allS sEx nd m 0 (nd m).kn))) ∧ Below w.heap.size w w' := by
  have HA : Hid (AH w F m nd nas) := hA
  have HN : Hid (NodeAt 0 w (nd m) (nas m)) := hN
  have hkn := hs.kn
  have hrn := hs.rn
  have hsz := hs.s
  clear hA hN hs
  go_enter Tryz.func106, Tryz.ntmps106
  go_wp2_with (first | (go_at_call 145; refine (uo32_calls (nd m) (nas m) _).mono ?_; rintro e w2 ⟨rfl, hb2⟩; have HB2 : Hid (Below w.heap.size w w2) := below_call (below_alloc _ _) hb2; have n2 : w2.cell? ⟨w.heap.size, 2, none⟩ = some (.int .i64 (nd m).o) := (Has.made hb2).cell 2 rfl; have n3 : w2.cell? ⟨w.heap.size, 3, none⟩ = some (.int .i64 (nd m).n) := (Has.made hb2).cell 3 rfl; have n4 : w2.cell? ⟨w.heap.size, 4, none⟩ = some (.float .f64 (nd m).f) := (Has.made hb2).cell 4 rfl; have n5 : w2.cell? ⟨w.heap.size, 5, none⟩ = some (.string (nd m).s) := (Has.made hb2).cell 5 rfl; have n6 : w2.cell? ⟨w.heap.size, 6, none⟩ = some (.slice (nas m).ra (nd m).rn (nas m).rc) := (Has.made hb2).cell 6 rfl; have n7 : w2.cell? ⟨w.heap.size, 7, none⟩ = some (.slice (nas m).ka (nd m).kn (nas m).kc) := (Has.made hb2).cell 7 rfl; have hz2 : w.heap.size < w2.heap.size := (Has.made hb2).lt; clear hb2) | (go_at_call 146; refine (all_calls F m nd nas _ _ _ (nd m).c 549754765312 _ (by decide) (by omega) (HA.out.below HB2.out) (RowN.below HN.out.2 HB2.out)).mono ?_; rintro e w1 ⟨rfl, rfl⟩))
  all_goals go_ret
  all_goals refine ⟨ret_bool ?_, by first | exact HB2.out | exact below_a' HB2.out _ | exact below_a' (below_a' HB2.out _) _⟩
  all_goals first | rfl | (simp [allS, *]; done) | (simp [allS, *]; omega) | (simp [allS, *]; intros; omega)

set_option maxRecDepth 100000 in
set_option maxHeartbeats 8000000 in
theorem fo_fraction (F m : Nat) (nd : Nat → ND) (nas : Nat → NA) (w : World) (hA : AH w F m nd nas) (hN : NodeAt 0 w (nd m) (nas m)) (hs : (nd m).sm) (_hcap : (nd m).kn ≤ (nas m).kc) :
    Calls Tryz.prog 99 #[.pointer (some ⟨F, 0, none⟩), nodeV (nd m) (nas m)] w fun e w' => e = .returned (.bool (uoB (nd m) false false true false false false && (nnB (nd m).f))) ∧ Below w.heap.size w w' := by
  have HA : Hid (AH w F m nd nas) := hA
  have HN : Hid (NodeAt 0 w (nd m) (nas m)) := hN
  have hkn := hs.kn
  have hrn := hs.rn
  have hsz := hs.s
  clear hA hN hs
  go_enter Tryz.func99, Tryz.ntmps99
  go_wp2_with (first | (go_at_call 145; refine (uo4_calls (nd m) (nas m) _).mono ?_; rintro e w2 ⟨rfl, hb2⟩; have HB2 : Hid (Below w.heap.size w w2) := below_call (below_alloc _ _) hb2; have n2 : w2.cell? ⟨w.heap.size, 2, none⟩ = some (.int .i64 (nd m).o) := (Has.made hb2).cell 2 rfl; have n3 : w2.cell? ⟨w.heap.size, 3, none⟩ = some (.int .i64 (nd m).n) := (Has.made hb2).cell 3 rfl; have n4 : w2.cell? ⟨w.heap.size, 4, none⟩ = some (.float .f64 (nd m).f) := (Has.made hb2).cell 4 rfl; have n5 : w2.cell? ⟨w.heap.size, 5, none⟩ = some (.string (nd m).s) := (Has.made hb2).cell 5 rfl; have n6 : w2.cell? ⟨w.heap.size, 6, none⟩ = some (.slice (nas m).ra (nd m).rn (nas m).rc) := (Has.made hb2).cell 6 rfl; have n7 : w2.cell? ⟨w.heap.size, 7, none⟩ = some (.slice (nas m).ka (nd m).kn (nas m).kc) := (Has.made hb2).cell 7 rfl; have hz2 : w.heap.size < w2.heap.size := (Has.made hb2).lt; clear hb2) | (go_at_call 148; refine (isNaN_calls _ _).mono ?_; rintro e w1 ⟨rfl, rfl⟩))
  all_goals go_ret
  all_goals refine ⟨ret_bool ?_, by first | exact HB2.out | exact below_a' HB2.out _ | exact below_a' (below_a' HB2.out _) _⟩
  all_goals first | rfl | (simp [nnB, bne, *]; done) | (simp [nnB, bne, *]; omega) | (simp [nnB, bne, *]; intros; omega)

end Go.Proofs.YtcpjnddkibbddaaGreat
