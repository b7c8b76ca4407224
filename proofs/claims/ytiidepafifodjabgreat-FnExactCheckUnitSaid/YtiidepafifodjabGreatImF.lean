import Derived.Test.YtiidepafifodjabGreatFitQ
import Derived.Test.YtiidepafifodjabGreatImC
import Derived.Test.YtiidepafifodjabGreatImJ
import Derived.Deep.MidRow
import Derived.Laws.NewBlocks
/-! The program's check of a unit: forms. -/
namespace Go.Proofs.YtiidepafifodjabGreat
open Go.RowKit
attribute [local go_sem] run_store_float
attribute [local go_sem ↓] Go.wp_at_zero Go.wp_at_succ

set_option maxRecDepth 100000 in
set_option maxHeartbeats 8000000 in
theorem fo_oneCall (F m : Nat) (nd : Nat → ND) (nas : Nat → NA) (w : World) (hA : AH w F m nd nas) (hN : NodeAt 0 w (nd m) (nas m)) (hs : (nd m).sm) (hcap : (nd m).kn ≤ (nas m).kc) :
    Calls Tryz.prog 134 #[.pointer (some ⟨F, 0, none⟩), nodeV (nd m) (nas m)] w fun e w' => e = .returned (.bool (uoB (nd m) false false false false false true && ((((nd m).kn : Int) == 1 && kidS sCa nd m ((nd m).c 0))))) ∧ Below w.heap.size w w' := by
  have HA : Hid (AH w F m nd nas) := hA
  have HN : Hid (NodeAt 0 w (nd m) (nas m)) := hN
  have hkn := hs.kn
  have hrn := hs.rn
  have hsz := hs.s
  clear hA hN hs
  go_enter Tryz.func134, Tryz.ntmps134
  go_wp2_with (first | (go_at_call 209; refine (uo32_calls (nd m) (nas m) _).mono ?_; rintro e w2 ⟨rfl, hb2⟩; have HB2 : Hid (Below w.heap.size w w2) := below_call (below_alloc _ _) hb2; have n2 : w2.cell? ⟨w.heap.size, 2, none⟩ = some (.int .i64 (nd m).o) := (Has.made hb2).cell 2 rfl; have n3 : w2.cell? ⟨w.heap.size, 3, none⟩ = some (.int .i64 (nd m).n) := (Has.made hb2).cell 3 rfl; have n4 : w2.cell? ⟨w.heap.size, 4, none⟩ = some (.float .f64 (nd m).f) := (Has.made hb2).cell 4 rfl; have n5 : w2.cell? ⟨w.heap.size, 5, none⟩ = some (.string (nd m).s) := (Has.made hb2).cell 5 rfl; have n6 : w2.cell? ⟨w.heap.size, 6, none⟩ = some (.slice (nas m).ra (nd m).rn (nas m).rc) := (Has.made hb2).cell 6 rfl; have n7 : w2.cell? ⟨w.heap.size, 7, none⟩ = some (.slice (nas m).ka (nd m).kn (nas m).kc) := (Has.made hb2).cell 7 rfl; have hz2 : w.heap.size < w2.heap.size := (Has.made hb2).lt; clear hb2) | (go_at_call 211; refine (row1_calls F m nd nas _ _ _ (nd m).c _ 17179869184 _ (by decide) (by omega) hcap (HA.out.below (below_a' HB2.out _)) (RowN.below HN.out.2 (below_a' HB2.out _)) (by simp)).mono ?_; rintro e w1 ⟨rfl, rfl⟩))
  all_goals go_ret
  all_goals refine ⟨ret_bool ?_, by first | exact HB2.out | exact below_a' HB2.out _ | exact below_a' (below_a' HB2.out _) _⟩
  all_goals first | rfl | (simp [*]; done) | (simp [*]; omega) | (simp [*]; intros; omega)

set_option maxRecDepth 100000 in
set_option maxHeartbeats 8000000 in
theorem fo_while (F m : Nat) (nd : Nat → ND) (nas : Nat → NA) (w : World) (hA : AH w F m nd nas) (hN : NodeAt 0 w (nd m) (nas m)) (hs : (nd m).sm) (hcap : (nd m).kn ≤ (nas m).kc) :
    Calls Tryz.prog 136 #[.pointer (some ⟨F, 0, none⟩), nodeV (nd m) (nas m)] w fun e w' => e = .returned (.bool (uoB (nd m) false false false false false true && ((((nd m).kn : Int) == 2 && kidS sEx nd m ((nd m).c 0) && kidS sBl nd m ((nd m).c 1))))) ∧ Below w.heap.size w w' := by
  have HA : Hid (AH w F m nd nas) := hA
  have HN : Hid (NodeAt 0 w (nd m) (nas m)) := hN
  have hkn := hs.kn
  have hrn := hs.rn
  have hsz := hs.s
  clear hA hN hs
  go_enter Tryz.func136, Tryz.ntmps136
  go_wp2_with (first | (go_at_call 209; refine (uo32_calls (nd m) (nas m) _).mono ?_; rintro e w2 ⟨rfl, hb2⟩; have HB2 : Hid (Below w.heap.size w w2) := below_call (below_alloc _ _) hb2; have n2 : w2.cell? ⟨w.heap.size, 2, none⟩ = some (.int .i64 (nd m).o) := (Has.made hb2).cell 2 rfl; have n3 : w2.cell? ⟨w.heap.size, 3, none⟩ = some (.int .i64 (nd m).n) := (Has.made hb2).cell 3 rfl; have n4 : w2.cell? ⟨w.heap.size, 4, none⟩ = some (.float .f64 (nd m).f) := (Has.made hb2).cell 4 rfl; have n5 : w2.cell? ⟨w.heap.size, 5, none⟩ = some (.string (nd m).s) := (Has.made hb2).cell 5 rfl; have n6 : w2.cell? ⟨w.heap.size, 6, none⟩ = some (.slice (nas m).ra (nd m).rn (nas m).rc) := (Has.made hb2).cell 6 rfl; have n7 : w2.cell? ⟨w.heap.size, 7, none⟩ = some (.slice (nas m).ka (nd m).kn (nas m).kc) := (Has.made hb2).cell 7 rfl; have hz2 : w.heap.size < w2.heap.size := (Has.made hb2).lt; clear hb2) | (go_at_call 211; refine (row2_calls F m nd nas _ _ _ (nd m).c _ 549754765312 2 _ (by decide) (by decide) (by omega) hcap (HA.out.below (below_a' HB2.out _)) (RowN.below HN.out.2 (below_a' HB2.out _)) (by simp) (by simp)).mono ?_; rintro e w1 ⟨rfl, rfl⟩))
  all_goals go_ret
  all_goals refine ⟨ret_bool ?_, by first | exact HB2.out | exact below_a' HB2.out _ | exact below_a' (below_a' HB2.out _) _⟩
  all_goals first | rfl | (simp [*]; done) | (simp [*]; omega) | (simp [*]; intros; omega)

set_option maxRecDepth 100000 in
set_option maxHeartbeats 8000000 in
theorem fo_oneExpression (F m : Nat) (nd : Nat → ND) (nas : Nat → NA) (w : World) (hA : AH w F m nd nas) (hN : NodeAt 0 w (nd m) (nas m)) (hs : (nd m).sm) (hcap : (nd m).kn ≤ (nas m).kc) :
    Calls Tryz.prog 142 #[.pointer (some ⟨F, 0, none⟩), nodeV (nd m) (nas m)] w fun e w' => e = .returned (.bool (uoB (nd m) false false false false false true && ((((nd m).kn : Int) == 1 && kidS sEx nd m ((nd m).c 0))))) ∧ Below w.heap.size w w' := by
  have HA : Hid (AH w F m nd nas) := hA
  have HN : Hid (NodeAt 0 w (nd m) (nas m)) := hN
  have hkn := hs.kn
  have hrn := hs.rn
  have hsz := hs.s
  clear hA hN hs
  go_enter Tryz.func142, Tryz.ntmps142
  go_wp2_with (first | (go_at_call 209; refine (uo32_calls (nd m) (nas m) _).mono ?_; rintro e w2 ⟨rfl, hb2⟩; have HB2 : Hid (Below w.heap.size w w2) := below_call (below_alloc _ _) hb2; have n2 : w2.cell? ⟨w.heap.size, 2, none⟩ = some (.int .i64 (nd m).o) := (Has.made hb2).cell 2 rfl; have n3 : w2.cell? ⟨w.heap.size, 3, none⟩ = some (.int .i64 (nd m).n) := (Has.made hb2).cell 3 rfl; have n4 : w2.cell? ⟨w.heap.size, 4, none⟩ = some (.float .f64 (nd m).f) := (Has.made hb2).cell 4 rfl; have n5 : w2.cell? ⟨w.heap.size, 5, none⟩ = some (.string (nd m).s) := (Has.made hb2).cell 5 rfl; have n6 : w2.cell? ⟨w.heap.size, 6, none⟩ = some (.slice (nas m).ra (nd m).rn (nas m).rc) := (Has.made hb2).cell 6 rfl; have n7 : w2.cell? ⟨w.heap.size, 7, none⟩ = some (.slice (nas m).ka (nd m).kn (nas m).kc) := (Has.made hb2).cell 7 rfl; have hz2 : w.heap.size < w2.heap.size := (Has.made hb2).lt; clear hb2) | (go_at_call 211; refine (row1_calls F m nd nas _ _ _ (nd m).c _ 549754765312 _ (by decide) (by omega) hcap (HA.out.below (below_a' HB2.out _)) (RowN.below HN.out.2 (below_a' HB2.out _)) (by simp)).mono ?_; rintro e w1 ⟨rfl, rfl⟩))
  all_goals go_ret
  all_goals refine ⟨ret_bool ?_, by first | exact HB2.out | exact below_a' HB2.out _ | exact below_a' (below_a' HB2.out _) _⟩
  all_goals first | rfl | (simp [*]; done) | (simp [*]; omega) | (simp [*]; intros; omega)

set_option maxRecDepth 100000 in
set_option maxHeartbeats 8000000 in
theorem fo_twoExpressions (F m : Nat) (nd : Nat → ND) (nas : Nat → NA) (w : World) (hA : AH w F m nd nas) (hN : NodeAt 0 w (nd m) (nas m)) (hs : (nd m).sm) (hcap : (nd m).kn ≤ (nas m).kc) :
    Calls Tryz.prog 148 #[.pointer (some ⟨F, 0, none⟩), nodeV (nd m) (nas m)] w fun e w' => e = .returned (.bool (uoB (nd m) false false false false false true && ((((nd m).kn : Int) == 2 && kidS sEx nd m ((nd m).c 0) && kidS sEx nd m ((nd m).c 1))))) ∧ Below w.heap.size w w' := by
  have HA : Hid (AH w F m nd nas) := hA
  have HN : Hid (NodeAt 0 w (nd m) (nas m)) := hN
  have hkn := hs.kn
  have hrn := hs.rn
  have hsz := hs.s
  clear hA hN hs
  go_enter Tryz.func148, Tryz.ntmps148
  go_wp2_with (first | (go_at_call 209; refine (uo32_calls (nd m) (nas m) _).mono ?_; rintro e w2 ⟨rfl, hb2⟩; have HB2 : Hid (Below w.heap.size w w2) := below_call (below_alloc _ _) hb2; have n2 : w2.cell? ⟨w.heap.size, 2, none⟩ = some (.int .i64 (nd m).o) := (Has.made hb2).cell 2 rfl; have n3 : w2.cell? ⟨w.heap.size, 3, none⟩ = some (.int .i64 (nd m).n) := (Has.made hb2).cell 3 rfl; have n4 : w2.cell? ⟨w.heap.size, 4, none⟩ = some (.float .f64 (nd m).f) := (Has.made hb2).cell 4 rfl; have n5 : w2.cell? ⟨w.heap.size, 5, none⟩ = some (.string (nd m).s) := (Has.made hb2).cell 5 rfl; have n6 : w2.cell? ⟨w.heap.size, 6, none⟩ = some (.slice (nas m).ra (nd m).rn (nas m).rc) := (Has.made hb2).cell 6 rfl; have n7 : w2.cell? ⟨w.heap.size, 7, none⟩ = some (.slice (nas m).ka (nd m).kn (nas m).kc) := (Has.made hb2).cell 7 rfl; have hz2 : w.heap.size < w2.heap.size := (Has.made hb2).lt; clear hb2) | (go_at_call 211; refine (row2_calls F m nd nas _ _ _ (nd m).c _ 549754765312 549754765312 _ (by decide) (by decide) (by omega) hcap (HA.out.below (below_a' HB2.out _)) (RowN.below HN.out.2 (below_a' HB2.out _)) (by simp) (by simp)).mono ?_; rintro e w1 ⟨rfl, rfl⟩))
  all_goals go_ret
  all_goals refine ⟨ret_bool ?_, by first | exact HB2.out | exact below_a' HB2.out _ | exact below_a' (below_a' HB2.out _) _⟩
  all_goals first | rfl | (simp [*]; done) | (simp [*]; omega) | (simp [*]; intros; omega)

set_option maxRecDepth 100000 in
set_option maxHeartbeats 8000000 in
theorem fo_oneList (F m : Nat) (nd : Nat → ND) (nas : Nat → NA) (w : World) (hA : AH w F m nd nas) (hN : NodeAt 0 w (nd m) (nas m)) (hs : (nd m).sm) (hcap : (nd m).kn ≤ (nas m).kc) :
    Calls Tryz.prog 153 #[.pointer (some ⟨F, 0, none⟩), nodeV (nd m) (nas m)] w fun e w' => e = .returned (.bool (uoB (nd m) false false false false false true && ((((nd m).kn : Int) == 1 && kidS sLi nd m ((nd m).c 0))))) ∧ Below w.heap.size w w' := by
  have HA : Hid (AH w F m nd nas) := hA
  have HN : Hid (NodeAt 0 w (nd m) (nas m)) := hN
  have hkn := hs.kn
  have hrn := hs.rn
  have hsz := hs.s
  clear hA hN hs
  go_enter Tryz.func153, Tryz.ntmps153
  go_wp2_with (first | (go_at_call 209; refine (uo32_calls (nd m) (nas m) _).mono ?_; rintro e w2 ⟨rfl, hb2⟩; have HB2 : Hid (Below w.heap.size w w2) := below_call (below_alloc _ _) hb2; have n2 : w2.cell? ⟨w.heap.size, 2, none⟩ = some (.int .i64 (nd m).o) := (Has.made hb2).cell 2 rfl; have n3 : w2.cell? ⟨w.heap.size, 3, none⟩ = some (.int .i64 (nd m).n) := (Has.made hb2).cell 3 rfl; have n4 : w2.cell? ⟨w.heap.size, 4, none⟩ = some (.float .f64 (nd m).f) := (Has.made hb2).cell 4 rfl; have n5 : w2.cell? ⟨w.heap.size, 5, none⟩ = some (.string (nd m).s) := (Has.made hb2).cell 5 rfl; have n6 : w2.cell? ⟨w.heap.size, 6, none⟩ = some (.slice (nas m).ra (nd m).rn (nas m).rc) := (Has.made hb2).cell 6 rfl; have n7 : w2.cell? ⟨w.heap.size, 7, none⟩ = some (.slice (nas m).ka (nd m).kn (nas m).kc) := (Has.made hb2).cell 7 rfl; have hz2 : w.heap.size < w2.heap.size := (Has.made hb2).lt; clear hb2) | (go_at_call 211; refine (row1_calls F m nd nas _ _ _ (nd m).c _ 154618822656 _ (by decide) (by omega) hcap (HA.out.below (below_a' HB2.out _)) (RowN.below HN.out.2 (below_a' HB2.out _)) (by simp)).mono ?_; rintro e w1 ⟨rfl, rfl⟩))
  all_goals go_ret
  all_goals refine ⟨ret_bool ?_, by first | exact HB2.out | exact below_a' HB2.out _ | exact below_a' (below_a' HB2.out _) _⟩
  all_goals first | rfl | (simp [*]; done) | (simp [*]; omega) | (simp [*]; intros; omega)

set_option maxRecDepth 100000 in
set_option maxHeartbeats 8000000 in
theorem fo_try (F m : Nat) (nd : Nat → ND) (nas : Nat → NA) (w : World) (hA : AH w F m nd nas) (hN : NodeAt 0 w (nd m) (nas m)) (hs : (nd m).sm) (hcap : (nd m).kn ≤ (nas m).kc) :
    Calls Tryz.prog 141 #[.pointer (some ⟨F, 0, none⟩), nodeV (nd m) (nas m)] w fun e w' => e = .returned (.bool (uoB (nd m) false false false false true true && (((nd m).rn : Int) == 2 && (((nd m).kn : Int) == 2 && kidS sBl nd m ((nd m).c 0) && kidS sBl nd m ((nd m).c 1))))) ∧ Below w.heap.size w w' := by
  have HA : Hid (AH w F m nd nas) := hA
  have HN : Hid (NodeAt 0 w (nd m) (nas m)) := hN
  have hkn := hs.kn
  have hrn := hs.rn
  have hsz := hs.s
  clear hA hN hs
  go_enter Tryz.func141, Tryz.ntmps141
  go_wp2_with (first | (go_at_call 209; refine (uo48_calls (nd m) (nas m) _).mono ?_; rintro e w2 ⟨rfl, hb2⟩; have HB2 : Hid (Below w.heap.size w w2) := below_call (below_alloc _ _) hb2; have n2 : w2.cell? ⟨w.heap.size, 2, none⟩ = some (.int .i64 (nd m).o) := (Has.made hb2).cell 2 rfl; have n3 : w2.cell? ⟨w.heap.size, 3, none⟩ = some (.int .i64 (nd m).n) := (Has.made hb2).cell 3 rfl; have n4 : w2.cell? ⟨w.heap.size, 4, none⟩ = some (.float .f64 (nd m).f) := (Has.made hb2).cell 4 rfl; have n5 : w2.cell? ⟨w.heap.size, 5, none⟩ = some (.string (nd m).s) := (Has.made hb2).cell 5 rfl; have n6 : w2.cell? ⟨w.heap.size, 6, none⟩ = some (.slice (nas m).ra (nd m).rn (nas m).rc) := (Has.made hb2).cell 6 rfl; have n7 : w2.cell? ⟨w.heap.size, 7, none⟩ = some (.slice (nas m).ka (nd m).kn (nas m).kc) := (Has.made hb2).cell 7 rfl; have hz2 : w.heap.size < w2.heap.size := (Has.made hb2).lt; clear hb2) | (go_at_call 211; refine (row2_calls F m nd nas _ _ _ (nd m).c _ 2 2 _ (by decide) (by decide) (by omega) hcap (HA.out.below (below_a' HB2.out _)) (RowN.below HN.out.2 (below_a' HB2.out _)) (by simp) (by simp)).mono ?_; rintro e w1 ⟨rfl, rfl⟩))
  all_goals go_ret
  all_goals refine ⟨ret_bool ?_, by first | exact HB2.out | exact below_a' HB2.out _ | exact below_a' (below_a' HB2.out _) _⟩
  all_goals first | rfl | (simp [*]; done) | (simp [*]; omega) | (simp [*]; intros; omega)

end Go.Proofs.YtiidepafifodjabGreat

/-! The program's check of a unit: the visitor of forms. -/
namespace Go.Proofs.YtiidepafifodjabGreat
open Go.RowKit
attribute [local go_sem] run_store_float
attribute [local go_sem ↓] Go.wp_at_zero Go.wp_at_succ

/-- many cells of the block that was made last -/
def setL : Array Value → Nat → List Value → Array Value
  | c, _, [] => c
  | c, o, v :: r => setL (c.setIfInBounds o v) (o + 1) r
theorem setCells_new (w : World) (t : TypeId) : ∀ (vs : List Value) (o : Nat) (c : Array Value), (w.alloc (.cells c t)).setCells w.heap.size o vs = w.alloc (.cells (setL c o vs) t)
  | [], _, _ => rfl
  | v :: r, o, c => by
    show ((w.alloc (.cells c t)).setCell ⟨w.heap.size, o, none⟩ v).setCells w.heap.size (o + 1) r = _
    rw [World.setCell_alloc_at _ _ _ _ _ rfl]
    exact setCells_new w t r (o + 1) _
theorem there_new (w : World) (t : TypeId) (c : Array Value) (o n : Nat) (h : o + n ≤ c.size) : (w.alloc (.cells c t)).there w.heap.size o n := fun j hj => by
  have hc : (w.alloc (.cells c t)).cell? ⟨w.heap.size, o + j, none⟩ = c[o + j]? := World.cell?_alloc_new w c t (o + j)
  rw [hc, Array.getElem?_eq_getElem (by omega)]
  exact ⟨rfl, by simp [go_sem]⟩

/-- a method of the visitor at F as a value -/
abbrev mv (F f : Nat) : Value := .func (Fn.func f) #[.pointer (some ⟨F, 0, none⟩)] #[]
/-- the visitor's cells -/
abbrev frmC (F : Nat) (s : Value) : Array Value := #[s, .nilFunc, mv F 131, mv F 132, mv F 133, mv F 134, mv F 135, mv F 136, mv F 137, mv F 138, mv F 139, mv F 139, mv F 140, mv F 141, mv F 142, mv F 134, .nilFunc, .nilFunc, .nilFunc, .nilFunc, .nilFunc, mv F 139, mv F 139, mv F 139, mv F 143, mv F 144, mv F 145, mv F 146, mv F 146, mv F 147, mv F 148, mv F 148, mv F 149, mv F 150, mv F 148, mv F 151, mv F 152, mv F 146, mv F 139, mv F 153]
/-- the method of a kind -/
def stN : Nat → Nat
  | 1 => 131
  | 2 => 132
  | 3 => 133
  | 4 => 134
  | 5 => 135
  | 6 => 136
  | 7 => 137
  | 8 => 138
  | 9 => 139
  | 10 => 139
  | 11 => 140
  | 12 => 141
  | 13 => 142
  | 14 => 134
  | 20 => 139
  | 21 => 139
  | 22 => 139
  | 23 => 143
  | 24 => 144
  | 25 => 145
  | 26 => 146
  | 27 => 146
  | 28 => 147
  | 29 => 148
  | 30 => 148
  | 31 => 149
  | 32 => 150
  | 33 => 148
  | 34 => 151
  | 35 => 152
  | 36 => 146
  | 37 => 139
  | 38 => 153
  | _ => 0

abbrev zrC : Array Value := #[.slice none 0 0, .nilFunc, .nilFunc, .nilFunc, .nilFunc, .nilFunc, .nilFunc, .nilFunc, .nilFunc, .nilFunc, .nilFunc, .nilFunc, .nilFunc, .nilFunc, .nilFunc, .nilFunc, .nilFunc, .nilFunc, .nilFunc, .nilFunc, .nilFunc, .nilFunc, .nilFunc, .nilFunc, .nilFunc, .nilFunc, .nilFunc, .nilFunc, .nilFunc, .nilFunc, .nilFunc, .nilFunc, .nilFunc, .nilFunc, .nilFunc, .nilFunc, .nilFunc, .nilFunc, .nilFunc, .nilFunc]
abbrev mvC (F : Nat) : Array Value := #[.nilFunc, mv F 131, mv F 132, mv F 133, mv F 134, mv F 135, mv F 136, mv F 137, mv F 138, mv F 139, mv F 139, mv F 140, mv F 141, mv F 142, mv F 134, .nilFunc, .nilFunc, .nilFunc, .nilFunc, .nilFunc, mv F 139, mv F 139, mv F 139, mv F 143, mv F 144, mv F 145, mv F 146, mv F 146, mv F 147, mv F 148, mv F 148, mv F 149, mv F 150, mv F 148, mv F 151, mv F 152, mv F 146, mv F 139, mv F 153]
theorem mv_size : (Tryz.prog.info? 174).map (·.size) = some 39 := by kernel_rfl
theorem mv_one (F : Nat) : (mvC F).all (·.oneCell') = true := by simp [Value.oneCell']
set_option maxRecDepth 100000 in
theorem mv_set (F : Nat) : setL zrC 1 (mvC F).toList = frmC F (.slice none 0 0) := by kernel_rfl
end Go.Proofs.YtiidepafifodjabGreat

/-! The program's check of a unit: a new visitor of forms. -/
namespace Go.Proofs.YtiidepafifodjabGreat
open Go.RowKit
attribute [local go_sem] run_store_float
attribute [local go_sem ↓] Go.wp_at_zero Go.wp_at_succ

set_option maxRecDepth 100000 in
set_option maxHeartbeats 2000000 in
theorem newForms_calls (w : World) : Calls Tryz.prog 87 #[] w fun e w' => e = .returned (.pointer (some ⟨w.heap.size, 0, none⟩)) ∧ w' = w.alloc (.cells (frmC w.heap.size (.slice none 0 0)) 176) := by
  have hmf : ∀ (fn : Fn) (first cap : Array Value) (w : World), (Instr.makeFunc fn first cap).run Tryz.prog w = .ok (.func fn first cap) w := fun _ _ _ _ => rfl
  have hth : Hid ((w.alloc (.cells zrC 176)).there w.heap.size 1 39) := there_new w 176 zrC 1 39 (by simp)
  have hset : Hid ((w.alloc (.cells zrC 176)).setCells w.heap.size 1 (mvC w.heap.size).toList = w.alloc (.cells (frmC w.heap.size (.slice none 0 0)) 176)) := by
    show _ = _
    rw [setCells_new, mv_set]
  go_enter Tryz.func87, Tryz.ntmps87
  go_wp2_with (show wpList _ _ _ _ _ _; refine wpList_store_mid rfl 174 _ _ rfl w.heap.size 1 (mvC w.heap.size) rfl rfl hth.out mv_size (mv_one _) ?_; refine Eq.mpr (congrArg _ hset.out) ?_)
  go_ret
  exact ⟨rfl, rfl⟩

/-- the visitor stands at F, s its nodes ahead -/
def FRow (w : World) (F : Nat) (s : Value) : Prop := w.rowIs F 176 40 (fun i => ((frmC F s)[i]?).getD undef)
theorem FRow.new (w : World) : FRow (w.alloc (.cells (frmC w.heap.size (.slice none 0 0)) 176)) w.heap.size (.slice none 0 0) :=
  World.rowIs_alloc w (frmC w.heap.size (.slice none 0 0)) 176 _ fun i hi => by
    rw [Array.getElem?_eq_getElem hi]; rfl
theorem FRow.set {w : World} {F : Nat} {s : Value} (h : FRow w F s) (t : Value) : FRow (w.setCell ⟨F, 0, none⟩ t) F t := (World.rowIs.set h 0 t).congr fun i _ => by
  by_cases e : i = 0
  · subst e; rfl
  · rw [if_neg e]
    obtain ⟨j, rfl⟩ : ∃ j, i = j + 1 := ⟨i - 1, by omega⟩
    rfl
theorem FRow.alloc {w : World} {F : Nat} {s : Value} (h : FRow w F s) (o : Obj) : FRow (w.alloc o) F s := World.rowIs.alloc h o
theorem FRow.below {w w' : World} {F : Nat} {s : Value} (h : FRow w F s) (hb : Below w.heap.size w w') : FRow w' F s := World.rowIs.of_block h (hb.block _ h.lt)
end Go.Proofs.YtiidepafifodjabGreat
