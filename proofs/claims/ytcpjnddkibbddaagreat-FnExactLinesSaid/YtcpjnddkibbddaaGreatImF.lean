import Derived.Test.YtcpjnddkibbddaaGreatFitQ
import Derived.Test.YtcpjnddkibbddaaGreatImD
import Derived.Test.YtcpjnddkibbddaaGreatImJ
import Derived.Deep.MidRow
import Derived.Laws.NewBlocks
/-! The program's check of a unit: forms. -/
namespace Go.Proofs.YtcpjnddkibbddaaGreat
open Go.RowKit
attribute [local go_sem] run_store_float
attribute [local go_sem ↓] Go.wp_at_zero Go.wp_at_succ

set_option maxRecDepth 100000 in
set_option maxHeartbeats 8000000 in
theorem fo_oneCall (F m : Nat) (nd : Nat → ND) (nas : Nat → NA) (w : World) (hA : AH w F m nd nas) (hN : NodeAt 0 w (nd m) (nas m)) (hs : (nd m).sm) (hcap : (nd m).kn ≤ (nas m).kc) :
    Calls Tryz.prog 89 #[.pointer (some ⟨F, 0, none⟩), nodeV (nd m) (nas m)] w fun e w' => e = .returned (.bool (uoB (nd m) false false false false false true && ((((nd m).kn : Int) == 1 && kidS sCa nd m ((nd m).c 0))))) ∧ Below w.heap.size w w' := by
  have HA : Hid (AH w F m nd nas) := hA
  have HN : Hid (NodeAt 0 w (nd m) (nas m)) := hN
  have hkn := hs.kn
  have hrn := hs.rn
  have hsz := hs.s
  clear hA hN hs
  go_enter Tryz.func89, Tryz.ntmps89
  go_wp2_with (first | (go_at_call 145; refine (uo32_calls (nd m) (nas m) _).mono ?_; rintro e w2 ⟨rfl, hb2⟩; have HB2 : Hid (Below w.heap.size w w2) := below_call (below_alloc _ _) hb2; have n2 : w2.cell? ⟨w.heap.size, 2, none⟩ = some (.int .i64 (nd m).o) := (Has.made hb2).cell 2 rfl; have n3 : w2.cell? ⟨w.heap.size, 3, none⟩ = some (.int .i64 (nd m).n) := (Has.made hb2).cell 3 rfl; have n4 : w2.cell? ⟨w.heap.size, 4, none⟩ = some (.float .f64 (nd m).f) := (Has.made hb2).cell 4 rfl; have n5 : w2.cell? ⟨w.heap.size, 5, none⟩ = some (.string (nd m).s) := (Has.made hb2).cell 5 rfl; have n6 : w2.cell? ⟨w.heap.size, 6, none⟩ = some (.slice (nas m).ra (nd m).rn (nas m).rc) := (Has.made hb2).cell 6 rfl; have n7 : w2.cell? ⟨w.heap.size, 7, none⟩ = some (.slice (nas m).ka (nd m).kn (nas m).kc) := (Has.made hb2).cell 7 rfl; have hz2 : w.heap.size < w2.heap.size := (Has.made hb2).lt; clear hb2) | (go_at_call 147; refine (row1_calls F m nd nas _ _ _ (nd m).c _ 17179869184 _ (by decide) (by omega) hcap (HA.out.below (below_a' HB2.out _)) (RowN.below HN.out.2 (below_a' HB2.out _)) (by simp)).mono ?_; rintro e w1 ⟨rfl, rfl⟩))
  all_goals go_ret
  all_goals refine ⟨ret_bool ?_, by first | exact HB2.out | exact below_a' HB2.out _ | exact below_a' (below_a' HB2.out _) _⟩
  all_goals first | rfl | (simp [*]; done) | (simp [*]; omega) | (simp [*]; intros; omega)

set_option maxRecDepth 100000 in
set_option maxHeartbeats 8000000 in
theorem fo_while (F m : Nat) (nd : Nat → ND) (nas : Nat → NA) (w : World) (hA : AH w F m nd nas) (hN : NodeAt 0 w (nd m) (nas m)) (hs : (nd m).sm) (hcap : (nd m).kn ≤ (nas m).kc) :
    Calls Tryz.prog 91 #[.pointer (some ⟨F, 0, none⟩), nodeV (nd m) (nas m)] w fun e w' => e = .returned (.bool (uoB (nd m) false false false false false true && ((((nd m).kn : Int) == 2 && kidS sEx nd m ((nd m).c 0) && kidS sBl nd m ((nd m).c 1))))) ∧ Below w.heap.size w w' := by
  have HA : Hid (AH w F m nd nas) := hA
  have HN : Hid (NodeAt 0 w (nd m) (nas m)) := hN
  have hkn := hs.kn
  have hrn := hs.rn
  have hsz := hs.s
  clear hA hN hs
  go_enter Tryz.func91, Tryz.ntmps91
  go_wp2_with (first | (go_at_call 145; refine (uo32_calls (nd m) (nas m) _).mono ?_; rintro e w2 ⟨rfl, hb2⟩; have HB2 : Hid (Below w.heap.size w w2) := below_call (below_alloc _ _) hb2; have n2 : w2.cell? ⟨w.heap.size, 2, none⟩ = some (.int .i64 (nd m).o) := (Has.made hb2).cell 2 rfl; have n3 : w2.cell? ⟨w.heap.size, 3, none⟩ = some (.int .i64 (nd m).n) := (Has.made hb2).cell 3 rfl; have n4 : w2.cell? ⟨w.heap.size, 4, none⟩ = some (.float .f64 (nd m).f) := (Has.made hb2).cell 4 rfl; have n5 : w2.cell? ⟨w.heap.size, 5, none⟩ = some (.string (nd m).s) := (Has.made hb2).cell 5 rfl; have n6 : w2.cell? ⟨w.heap.size, 6, none⟩ = some (.slice (nas m).ra (nd m).rn (nas m).rc) := (Has.made hb2).cell 6 rfl; have n7 : w2.cell? ⟨w.heap.size, 7, none⟩ = some (.slice (nas m).ka (nd m).kn (nas m).kc) := (Has.made hb2).cell 7 rfl; have hz2 : w.heap.size < w2.heap.size := (Has.made hb2).lt; clear hb2) | (go_at_call 147; refine (row2_calls F m nd nas _ _ _ (nd m).c _ 549754765312 2 _ (by decide) (by decide) (by omega) hcap (HA.out.below (below_a' HB2.out _)) (RowN.below HN.out.2 (below_a' HB2.out _)) (by simp) (by simp)).mono ?_; rintro e w1 ⟨rfl, rfl⟩))
  all_goals go_ret
  all_goals refine ⟨ret_bool ?_, by first | exact HB2.out | exact below_a' HB2.out _ | exact below_a' (below_a' HB2.out _) _⟩
  all_goals first | rfl | (simp [*]; done) | (simp [*]; omega) | (simp [*]; intros; omega)

set_option maxRecDepth 100000 in
set_option maxHeartbeats 8000000 in
theorem fo_oneExpression (F m : Nat) (nd : Nat → ND) (nas : Nat → NA) (w : World) (hA : AH w F m nd nas) (hN : NodeAt 0 w (nd m) (nas m)) (hs : (nd m).sm) (hcap : (nd m).kn ≤ (nas m).kc) :
    Calls Tryz.prog 97 #[.pointer (some ⟨F, 0, none⟩), nodeV (nd m) (nas m)] w fun e w' => e = .returned (.bool (uoB (nd m) false false false false false true && ((((nd m).kn : Int) == 1 && kidS sEx nd m ((nd m).c 0))))) ∧ Below w.heap.size w w' := by
  have HA : Hid (AH w F m nd nas) := hA
  have HN : Hid (NodeAt 0 w (nd m) (nas m)) := hN
  have hkn := hs.kn
  have hrn := hs.rn
  have hsz := hs.s
  clear hA hN hs
  go_enter Tryz.func97, Tryz.ntmps97
  go_wp2_with (first | (go_at_call 145; refine (uo32_calls (nd m) (nas m) _).mono ?_; rintro e w2 ⟨rfl, hb2⟩; have HB2 : Hid (Below w.heap.size w w2) := below_call (below_alloc _ _) hb2; have n2 : w2.cell? ⟨w.heap.size, 2, none⟩ = some (.int .i64 (nd m).o) := (Has.made hb2).cell 2 rfl; have n3 : w2.cell? ⟨w.heap.size, 3, none⟩ = some (.int .i64 (nd m).n) := (Has.made hb2).cell 3 rfl; have n4 : w2.cell? ⟨w.heap.size, 4, none⟩ = some (.float .f64 (nd m).f) := (Has.made hb2).cell 4 rfl; have n5 : w2.cell? ⟨w.heap.size, 5, none⟩ = some (.string (nd m).s) := (Has.made hb2).cell 5 rfl; have n6 : w2.cell? ⟨w.heap.size, 6, none⟩ = some (.slice (nas m).ra (nd m).rn (nas m).rc) := (Has.made hb2).cell 6 rfl; have n7 : w2.cell? ⟨w.heap.size, 7, none⟩ = some (.slice (nas m).ka (nd m).kn (nas m).kc) := (Has.made hb2).cell 7 rfl; have hz2 : w.heap.size < w2.heap.size := (Has.made hb2).lt; clear hb2) | (go_at_call 147; refine (row1_calls F m nd nas _ _ _ (nd m).c _ 549754765312 _ (by decide) (by omega) hcap (HA.out.below (below_a' HB2.out _)) (RowN.below HN.out.2 (below_a' HB2.out _)) (by simp)).mono ?_; rintro e w1 ⟨rfl, rfl⟩))
  all_goals go_ret
  all_goals refine ⟨ret_bool ?_, by first | exact HB2.out | exact below_a' HB2.out _ | exact below_a' (below_a' HB2.out _) _⟩
  all_goals first | rfl | (simp [*]; done) | (simp [*]; omega) | (simp [*]; intros; omega)

set_option maxRecDepth 100000 in
set_option maxHeartbeats 8000000 in
theorem fo_twoExpressions (F m : Nat) (nd : Nat → ND) (nas : Nat → NA) (w : World) (hA : AH w F m nd nas) (hN : NodeAt 0 w (nd m) (nas m)) (hs : (nd m).sm) (hcap : (nd m).kn ≤ (nas m).kc) :
    Calls Tryz.prog 103 #[.pointer (some ⟨F, 0, none⟩), nodeV (nd m) (nas m)] w fun e w' => e = .returned (.bool (uoB (nd m) false false false false false true && ((((nd m).kn : Int) == 2 && kidS sEx nd m ((nd m).c 0) && kidS sEx nd m ((nd m).c 1))))) ∧ Below w.heap.size w w' := by
  have HA : Hid (AH w F m nd nas) := hA
  have HN : Hid (NodeAt 0 w (nd m) (nas m)) := hN
  have hkn := hs.kn
  have hrn := hs.rn
  have hsz := hs.s
  clear hA hN hs
  go_enter Tryz.func103, Tryz.ntmps103
  go_wp2_with (first | (go_at_call 145; refine (uo32_calls (nd m) (nas m) _).mono ?_; rintro e w2 ⟨rfl, hb2⟩; have HB2 : Hid (Below w.heap.size w w2) := below_call (below_alloc _ _) hb2; have n2 : w2.cell? ⟨w.heap.size, 2, none⟩ = some (.int .i64 (nd m).o) := (Has.made hb2).cell 2 rfl; have n3 : w2.cell? ⟨w.heap.size, 3, none⟩ = some (.int .i64 (nd m).n) := (Has.made hb2).cell 3 rfl; have n4 : w2.cell? ⟨w.heap.size, 4, none⟩ = some (.float .f64 (nd m).f) := (Has.made hb2).cell 4 rfl; have n5 : w2.cell? ⟨w.heap.size, 5, none⟩ = some (.string (nd m).s) := (Has.made hb2).cell 5 rfl; have n6 : w2.cell? ⟨w.heap.size, 6, none⟩ = some (.slice (nas m).ra (nd m).rn (nas m).rc) := (Has.made hb2).cell 6 rfl; have n7 : w2.cell? ⟨w.heap.size, 7, none⟩ = some (.slice (nas m).ka (nd m).kn (nas m).kc) := (Has.made hb2).cell 7 rfl; have hz2 : w.heap.size < w2.heap.size := (Has.made hb2).lt; clear hb2) | (go_at_call 147; refine (row2_calls F m nd nas _ _ _ (nd m).c _ 549754765312 549754765312 _ (by decide) (by decide) (by omega) hcap (HA.out.below (below_a' HB2.out _)) (RowN.below HN.out.2 (below_a' HB2.out _)) (by simp) (by simp)).mono ?_; rintro e w1 ⟨rfl, rfl⟩))
  all_goals go_ret
  all_goals refine ⟨ret_bool ?_, by first | exact HB2.out | exact below_a' HB2.out _ | exact below_a' (below_a' HB2.out _) _⟩
  all_goals first | rfl | (simp [*]; done) | (simp [*]; omega) | (simp [*]; intros; omega)

set_option maxRecDepth 100000 in
set_option maxHeartbeats 8000000 in
theorem fo_oneList (F m : Nat) (nd : Nat → ND) (nas : Nat → NA) (w : World) (hA : AH w F m nd nas) (hN : NodeAt 0 w (nd m) (nas m)) (hs : (nd m).sm) (hcap : (nd m).kn ≤ (nas m).kc) :
    Calls Tryz.prog 108 #[.pointer (some ⟨F, 0, none⟩), nodeV (nd m) (nas m)] w fun e w' => e = .returned (.bool (uoB (nd m) false false false false false true && ((((nd m).kn : Int) == 1 && kidS sLi nd m ((nd m).c 0))))) ∧ Below w.heap.size w w' := by
  have HA : Hid (AH w F m nd nas) := hA
  have HN : Hid (NodeAt 0 w (nd m) (nas m)) := hN
  have hkn := hs.kn
  have hrn := hs.rn
  have hsz := hs.s
  clear hA hN hs
  go_enter Tryz.func108, Tryz.ntmps108
  go_wp2_with (first | (go_at_call 145; refine (uo32_calls (nd m) (nas m) _).mono ?_; rintro e w2 ⟨rfl, hb2⟩; have HB2 : Hid (Below w.heap.size w w2) := below_call (below_alloc _ _) hb2; have n2 : w2.cell? ⟨w.heap.size, 2, none⟩ = some (.int .i64 (nd m).o) := (Has.made hb2).cell 2 rfl; have n3 : w2.cell? ⟨w.heap.size, 3, none⟩ = some (.int .i64 (nd m).n) := (Has.made hb2).cell 3 rfl; have n4 : w2.cell? ⟨w.heap.size, 4, none⟩ = some (.float .f64 (nd m).f) := (Has.made hb2).cell 4 rfl; have n5 : w2.cell? ⟨w.heap.size, 5, none⟩ = some (.string (nd m).s) := (Has.made hb2).cell 5 rfl; have n6 : w2.cell? ⟨w.heap.size, 6, none⟩ = some (.slice (nas m).ra (nd m).rn (nas m).rc) := (Has.made hb2).cell 6 rfl; have n7 : w2.cell? ⟨w.heap.size, 7, none⟩ = some (.slice (nas m).ka (nd m).kn (nas m).kc) := (Has.made hb2).cell 7 rfl; have hz2 : w.heap.size < w2.heap.size := (Has.made hb2).lt; clear hb2) | (go_at_call 147; refine (row1_calls F m nd nas _ _ _ (nd m).c _ 154618822656 _ (by decide) (by omega) hcap (HA.out.below (below_a' HB2.out _)) (RowN.below HN.out.2 (below_a' HB2.out _)) (by simp)).mono ?_; rintro e w1 ⟨rfl, rfl⟩))
  all_goals go_ret
  all_goals refine ⟨ret_bool ?_, by first | exact HB2.out | exact below_a' HB2.out _ | exact below_a' (below_a' HB2.out _) _⟩
  all_goals first | rfl | (simp [*]; done) | (simp [*]; omega) | (simp [*]; intros; omega)

set_option maxRecDepth 100000 in
set_option maxHeartbeats 8000000 in
theorem fo_try (F m : Nat) (nd : Nat → ND) (nas : Nat → NA) (w : World) (hA : AH w F m nd nas) (hN : NodeAt 0 w (nd m) (nas m)) (hs : (nd m).sm) (hcap : (nd m).kn ≤ (nas m).kc) :
    Calls Tryz.prog 96 #[.pointer (some ⟨F, 0, none⟩), nodeV (nd m) (nas m)] w fun e w' => e = .returned (.bool (uoB (nd m) false false false false true true && (((nd m).rn : Int) == 2 && (((nd m).kn : Int) == 2 && kidS sBl nd m ((nd m).c 0) && kidS sBl nd m ((nd m).c 1))))) ∧ Below w.heap.size w w' := by
  have HA : Hid (AH w F m nd nas) := hA
  have HN : Hid (NodeAt 0 w (nd m) (nas m)) := hN
  have hkn := hs.kn
  have hrn := hs.rn
  have hsz := hs.s
  clear hA hN hs
  go_enter Tryz.func96, Tryz.ntmps96
  go_wp2_with (first | (go_at_call 145; refine (uo48_calls (nd m) (nas m) _).mono ?_; rintro e w2 ⟨rfl, hb2⟩; have HB2 : Hid (Below w.heap.size w w2) := below_call (below_alloc _ _) hb2; have n2 : w2.cell? ⟨w.heap.size, 2, none⟩ = some (.int .i64 (nd m).o) := (Has.made hb2).cell 2 rfl; have n3 : w2.cell? ⟨w.heap.size, 3, none⟩ = some (.int .i64 (nd m).n) := (Has.made hb2).cell 3 rfl; have n4 : w2.cell? ⟨w.heap.size, 4, none⟩ = some (.float .f64 (nd m).f) := (Has.made hb2).cell 4 rfl; have n5 : w2.cell? ⟨w.heap.size, 5, none⟩ = some (.string (nd m).s) := (Has.made hb2).cell 5 rfl; have n6 : w2.cell? ⟨w.heap.size, 6, none⟩ = some (.slice (nas m).ra (nd m).rn (nas m).rc) := (Has.made hb2).cell 6 rfl; have n7 : w2.cell? ⟨w.heap.size, 7, none⟩ = some (.slice (nas m).ka (nd m).kn (nas m).kc) := (Has.made hb2).cell 7 rfl; have hz2 : w.heap.size < w2.heap.size := (Has.made hb2).lt; clear hb2) | (go_at_call 147; refine (row2_calls F m nd nas _ _ _ (nd m).c _ 2 2 _ (by decide) (by decide) (by omega) hcap (HA.out.below (below_a' HB2.out _)) (RowN.below HN.out.2 (below_a' HB2.out _)) (by simp) (by simp)).mono ?_; rintro e w1 ⟨rfl, rfl⟩))
  all_goals go_ret
  all_goals refine ⟨ret_bool ?_, by first | exact HB2.out | exact below_a' HB2.out _ | exact below_a' (below_a' HB2.out _) _⟩
  all_goals first | rfl | (simp [*]; done) | (simp [*]; omega) | (simp [*]; intros; omega)

end Go.Proofs.YtcpjnddkibbddaaGreat

/-! The program's check of a unit: the visitor of forms. -/
namespace Go.Proofs.YtcpjnddkibbddaaGreat
open Go.RowKit
attribute [local go_sem] run_store_float
attribute [local go_sem ↓] Go.wp_at_zero Go.wp_at_succ

/-- many cells of the block that was made last -/
def setL : Array Value → Nat → List Value → Array Value
  | c, _, [] => c
  | c, o, v :: r => setL (c.setIfInBounds o v) (o + 1) r
theorem setCells_new (w : World) (t : TypeId) : ∀ (vs : List Value) (o : Nat) (c : Array Value), (w.alloc (.cells c t)).setCells w.heap.size o vs = w.alloc (.cells (setL c o vs) t)
  | [], _, _ => rfl
  | v :: r, o, c => by
    show ((w.alloc (.cells c t)).setCell ⟨w.heap.size, o, none⟩ v).setCells w.heap.size (o + 1) r = _
    rw [World.setCell_alloc_at _ _ _ _ _ rfl]
    exact setCells_new w t r (o + 1) _
theorem there_new (w : World) (t : TypeId) (c : Array Value) (o n : Nat) (h : o + n ≤ c.size) : (w.alloc (.cells c t)).there w.heap.size o n := fun j hj => by
  have hc : (w.alloc (.cells c t)).cell? ⟨w.heap.size, o + j, none⟩ = c[o + j]? := World.cell?_alloc_new w c t (o + j)
  rw [hc, Array.getElem?_eq_getElem (by omega)]
  exact ⟨rfl, by simp [go_sem]⟩

/-- a method of the visitor at F as a value -/
abbrev mv (F f : Nat) : Value := .func (Fn.func f) #[.pointer (some ⟨F, 0, none⟩)] #[]
/-- the visitor's cells -/
abbrev frmC (F : Nat) (s : Value) : Array Value := #[s, .nilFunc, mv F 86, mv F 87, mv F 88, mv F 89, mv F 90, mv F 91, mv F 92, mv F 93, mv F 94, mv F 94, mv F 95, mv F 96, mv F 97, mv F 89, .nilFunc, .nilFunc, .nilFunc, .nilFunc, .nilFunc, mv F 94, mv F 94, mv F 94, mv F 98, mv F 99, mv F 100, mv F 101, mv F 101, mv F 102, mv F 103, mv F 103, mv F 104, mv F 105, mv F 103, mv F 106, mv F 107, mv F 101, mv F 94, mv F 108]
/-- the method of a kind -/
def stN : Nat → Nat
  | 1 => 86
  | 2 => 87
  | 3 => 88
  | 4 => 89
  | 5 => 90
  | 6 => 91
  | 7 => 92
  | 8 => 93
  | 9 => 94
  | 10 => 94
  | 11 => 95
  | 12 => 96
  | 13 => 97
  | 14 => 89
  | 20 => 94
  | 21 => 94
  | 22 => 94
  | 23 => 98
  | 24 => 99
  | 25 => 100
  | 26 => 101
  | 27 => 101
  | 28 => 102
  | 29 => 103
  | 30 => 103
  | 31 => 104
  | 32 => 105
  | 33 => 103
  | 34 => 106
  | 35 => 107
  | 36 => 101
  | 37 => 94
  | 38 => 108
  | _ => 0

abbrev zrC : Array Value := #[.slice none 0 0, .nilFunc, .nilFunc, .nilFunc, .nilFunc, .nilFunc, .nilFunc, .nilFunc, .nilFunc, .nilFunc, .nilFunc, .nilFunc, .nilFunc, .nilFunc, .nilFunc, .nilFunc, .nilFunc, .nilFunc, .nilFunc, .nilFunc, .nilFunc, .nilFunc, .nilFunc, .nilFunc, .nilFunc, .nilFunc, .nilFunc, .nilFunc, .nilFunc, .nilFunc, .nilFunc, .nilFunc, .nilFunc, .nilFunc, .nilFunc, .nilFunc, .nilFunc, .nilFunc, .nilFunc, .nilFunc]
abbrev mvC (F : Nat) : Array Value := #[.nilFunc, mv F 86, mv F 87, mv F 88, mv F 89, mv F 90, mv F 91, mv F 92, mv F 93, mv F 94, mv F 94, mv F 95, mv F 96, mv F 97, mv F 89, .nilFunc, .nilFunc, .nilFunc, .nilFunc, .nilFunc, mv F 94, mv F 94, mv F 94, mv F 98, mv F 99, mv F 100, mv F 101, mv F 101, mv F 102, mv F 103, mv F 103, mv F 104, mv F 105, mv F 103, mv F 106, mv F 107, mv F 101, mv F 94, mv F 108]
theorem mv_size : (Tryz.prog.info? 123).map (·.size) = some 39 := by kernel_rfl
theorem mv_one (F : Nat) : (mvC F).all (·.oneCell') = true := by simp [Value.oneCell']
set_option maxRecDepth 100000 in
theorem mv_set (F : Nat) : setL zrC 1 (mvC F).toList = frmC F (.slice none 0 0) := by kernel_rfl
end Go.Proofs.YtcpjnddkibbddaaGreat

/-! The program's check of a unit: a new visitor of forms. -/
namespace Go.Proofs.YtcpjnddkibbddaaGreat
open Go.RowKit
attribute [local go_sem] run_store_float
attribute [local go_sem ↓] Go.wp_at_zero Go.wp_at_succ

set_option maxRecDepth 100000 in
set_option maxHeartbeats 2000000 in
theorem newForms_calls (w : World) : Calls Tryz.prog 57 #[] w fun e w' => e = .returned (.pointer (some ⟨w.heap.size, 0, none⟩)) ∧ w' = w.alloc (.cells (frmC w.heap.size (.slice none 0 0)) 125) := by
  have hmf : ∀ (fn : Fn) (first cap : Array Value) (w : World), (Instr.makeFunc fn first cap).run Tryz.prog w = .ok (.func fn first cap) w := fun _ _ _ _ => rfl
  have hth : Hid ((w.alloc (.cells zrC 125)).there w.heap.size 1 39) := there_new w 125 zrC 1 39 (by simp)
  have hset : Hid ((w.alloc (.cells zrC 125)).setCells w.heap.size 1 (mvC w.heap.size).toList = w.alloc (.cells (frmC w.heap.size (.slice none 0 0)) 125)) := by
    show _ = _
    rw [setCells_new, mv_set]
  go_enter Tryz.func57, Tryz.ntmps57
  go_wp2_with (show wpList _ _ _ _ _ _; refine wpList_store_mid rfl 123 _ _ rfl w.heap.size 1 (mvC w.heap.size) rfl rfl hth.out mv_size (mv_one _) ?_; refine Eq.mpr (congrArg _ hset.out) ?_)
  go_ret
  exact ⟨rfl, rfl⟩

/-- the visitor stands at F, s its nodes ahead -/
def FRow (w : World) (F : Nat) (s : Value) : Prop := w.rowIs F 125 40 (fun i => ((frmC F s)[i]?).getD undef)
theorem FRow.new (w : World) : FRow (w.alloc (.cells (frmC w.heap.size (.slice none 0 0)) 125)) w.heap.size (.slice none 0 0) :=
  World.rowIs_alloc w (frmC w.heap.size (.slice none 0 0)) 125 _ fun i hi => by
    rw [Array.getElem?_eq_getElem hi]; rfl
theorem FRow.set {w : World} {F : Nat} {s : Value} (h : FRow w F s) (t : Value) : FRow (w.setCell ⟨F, 0, none⟩ t) F t := (World.rowIs.set h 0 t).congr fun i _ => by
  by_cases e : i = 0
  · subst e; rfl
  · rw [if_neg e]
    obtain ⟨j, rfl⟩ : ∃ j, i = j + 1 := ⟨i - 1, by omega⟩
    rfl
theorem FRow.alloc {w : World} {F : Nat} {s : Value} (h : FRow w F s) (o : Obj) : FRow (w.alloc o) F s := World.rowIs.alloc h o
theorem FRow.below {w w' : World} {F : Nat} {s : Value} (h : FRow w F s) (hb : Below w.heap.size w w') : FRow w' F s := World.rowIs.of_block h (hb.block _ h.lt)
end Go.Proofs.YtcpjnddkibbddaaGreat
