import Derived.Test.YtdialodjllpgaaaGreatDoorBdA
import Derived.Deep.RegionHeld3
import Derived.Test.YtdialodjllpgaaaGreatDoorImB
import Derived.Test.YtdialodjllpgaaaGreatDoorImE
import Derived.Deep.MidRow
import Derived.Laws.NewBlocks
import Derived.Test.YtdialodjllpgaaaGreatDoorSet
import Derived.Laws.AppendOwn
import Derived.Deep.DrawnRows
import Derived.Deep.RegionWith
import Derived.Deep.DeepCutAuto
/-! The program makes closures of nodes: one expression as a list. -/
namespace Go.Proofs.YtdialodjllpgaaaGreatDoor
open Go.RowKit
attribute [local go_sem] run_store_float
attribute [local go_sem ↓] Go.wp_at_zero Go.wp_at_succ
attribute [local go_sem] run_store_fn

set_option maxRecDepth 100000 in
set_option maxHeartbeats 8000000 in
theorem allVar_calls (M bb : Nat) (d : FD) (x : FA) (i : Nat) (w : World) (h : BB M bb d x w) (hi : i < d.nn) (hk : (d.nd i).k = 26) (hr : 0 < (d.nd i).rn) (hr0 : (d.nd i).r 0 = 0) :
    Calls Tryz.prog 169 #[ptr bb, .int .i64 (i : Int)] w fun e w' => (∃ B1 B, e = .returned (oneV B1) ∧ w.heap.size ≤ B1 ∧ w.heap.size ≤ B ∧ Has w' B1 #[varV B] ∧ Has w' B #[.int .i64 0]) ∧ Below w.heap.size w w' := by
  have HB : Hid (BB M bb d x w) := h
  have b1 := h.b.cell 1 rfl
  have hbl := h.b.1
  obtain ⟨b, off, e1, hb, c0, c1, c2, c3, c4, c5, c6, c7⟩ := h.node hi
  rw [e1] at b1
  rw [hk] at c0
  clear h c1 c2 c3 c4 c5 c6 c7
  have hmf := mkFunc'
  go_enter Tryz.func169, Tryz.ntmps169
  go_wp2_with fail
  refine (exprVar_calls M bb d x i _ (HB.out.alloc _) hi hk hr hr0).mono ?_
  rintro e w1 ⟨⟨B, rfl, h1, h2⟩, hb1⟩
  have HW : Hid (Below w.heap.size w w1) := below_call (below_alloc _ _) hb1
  have HH : Hid (w.heap.size ≤ B ∧ Has w1 B #[.int .i64 0]) := ⟨by simp at h1; omega, h2⟩
  clear hb1 h1 h2 b1 hbl c0
  go_wp2_with fail
  go_ret
  exact ⟨⟨w1.heap.size, B, rfl, HW.out.size, HH.out.1, Has.new _ _ _, HH.out.2.alloc _⟩, HW.out.alloc HW.out.size _⟩

/-- a list of one variable, as closures -/
structure Ls (w : World) (L1 L2 O V1 V2 : Nat) (u : World) : Prop where
  l1 : w.heap.size ≤ L1 ∧ Has u L1 #[onesV O]
  l2 : w.heap.size ≤ L2 ∧ Has u L2 #[oneV V1]
  o : w.heap.size ≤ O ∧ Has u O #[.slice none 0 0]
  v1 : w.heap.size ≤ V1 ∧ Has u V1 #[varV V2]
  v2 : w.heap.size ≤ V2 ∧ Has u V2 #[.int .i64 0]
  k : Below w.heap.size w u
end Go.Proofs.YtdialodjllpgaaaGreatDoor

/-! The program makes closures of nodes: a list of one variable; a call's parts. -/
namespace Go.Proofs.YtdialodjllpgaaaGreatDoor
open Go.RowKit
attribute [local go_sem] run_store_float
attribute [local go_sem ↓] Go.wp_at_zero Go.wp_at_succ
attribute [local go_sem] run_store_fn

theorem bl_refl (w : World) : Below w.heap.size w w := Below.refl _ _
theorem bl_drew {w u : World} (h : Below w.heap.size w u) : Below w.heap.size w u.drew := h.drew
theorem bl_alloc {w u : World} (h : Below w.heap.size w u) (o : Obj) : Below w.heap.size w (u.alloc o) := h.alloc h.size o
theorem bl_set {w u : World} (h : Below w.heap.size w u) {B o : Nat} (v : Value) (hB : w.heap.size ≤ B) : Below w.heap.size w (u.setCell ⟨B, o, none⟩ v) := h.setCell hB v
theorem OwnB.call {u w : World} {B : Nat} {A : Array Value} (h : OwnB u B A) (hb : Below u.heap.size u w) : OwnB w B A := h.block hb.size (hb.block _ h.1.1)
theorem OwnB.alloc {u : World} {B : Nat} {A : Array Value} (h : OwnB u B A) (o : Obj) : OwnB (u.alloc o) B A := h.call (below_alloc _ _)
theorem OwnB.drew {u : World} {B : Nat} {A : Array Value} (h : OwnB u B A) : OwnB u.drew B A := h.call (Below.refl _ _).drew
theorem has_same {u : World} {B : Nat} {x v : Value} (h : OwnB u B #[x]) : Has (u.setCell ⟨B, 0, none⟩ v) B #[v] := (h.set (o := 0) (by show 0 < 1; omega) v).1
theorem has_other {u : World} {B C : Nat} {A : Array Value} {o : Nat} {v : Value} (h : Has u C A) (hne : C ≠ B) : Has (u.setCell ⟨B, o, none⟩ v) C A := ⟨by simpa using h.1, fun i => (World.cell?_of_block (a := ⟨C, i, none⟩) (Below.heap_setCell _ ⟨B, o, none⟩ v C hne)).trans (h.2 i)⟩
theorem own_other {u : World} {B C : Nat} {A : Array Value} {o : Nat} {v : Value} (h : OwnB u C A) (hne : C ≠ B) : OwnB (u.setCell ⟨B, o, none⟩ v) C A := h.block (by simp) (Below.heap_setCell _ ⟨B, o, none⟩ v C hne)
/-- two boxes of one's own -/
structure Bp (w : World) (B C : Nat) (x y : Value) : Prop where
  a : OwnB w B #[x]
  b : OwnB w C #[y]
structure Bo (w : World) (B : Nat) (x : Value) : Prop where
  a : OwnB w B #[x]
theorem own_new1 (v : World) (o : Obj) (A : Array Value) (t : TypeId) : OwnB ((v.alloc o).alloc (.cells A t)) (v.heap.size + 1) A := by
  have h := OwnB.new (v.alloc o) A t
  rw [World.size_alloc] at h
  exact h
theorem has_new1 (v : World) (o : Obj) (A : Array Value) (t : TypeId) : Has ((v.alloc o).alloc (.cells A t)) (v.heap.size + 1) A := (own_new1 v o A t).1
theorem has_newS (v : World) (p : Addr) (x : Value) (A : Array Value) (t : TypeId) : Has ((v.setCell p x).alloc (.cells A t)) v.heap.size A := by
  have h := Has.new (v.setCell p x) A t
  rw [World.size_setCell] at h
  exact h
theorem box0 {v w1 : World} {x : Value} {t : TypeId} (hb : Below (v.drew.alloc (.cells #[x] t)).heap.size (v.drew.alloc (.cells #[x] t)) w1) : Bo w1 v.heap.size x := ⟨(OwnB.new v.drew #[x] t).call hb⟩
theorem box1 {v w1 : World} {x : Value} {t : TypeId} (hb : Below (v.alloc (.cells #[x] t)).heap.size (v.alloc (.cells #[x] t)) w1) : Bo w1 v.heap.size x := ⟨(OwnB.new v #[x] t).call hb⟩
theorem box00 {v w1 : World} {x y : Value} {t s : TypeId} (hb : Below ((v.drew.alloc (.cells #[x] t)).alloc (.cells #[y] s)).heap.size ((v.drew.alloc (.cells #[x] t)).alloc (.cells #[y] s)) w1) : Bp w1 v.heap.size (v.heap.size + 1) x y := ⟨((OwnB.new v.drew #[x] t).alloc _).call hb, (own_new1 v.drew _ #[y] s).call hb⟩
theorem box2 {v w1 : World} {x y : Value} {t s : TypeId} (hb : Below ((v.alloc (.cells #[x] t)).alloc (.cells #[y] s)).heap.size ((v.alloc (.cells #[x] t)).alloc (.cells #[y] s)) w1) : Bp w1 v.heap.size (v.heap.size + 1) x y := ⟨((OwnB.new v #[x] t).alloc _).call hb, (own_new1 v _ #[y] s).call hb⟩
theorem Bp.call {u w : World} {B C : Nat} {x y : Value} (h : Bp u B C x y) (hb : Below u.heap.size u w) : Bp w B C x y := ⟨h.a.call hb, h.b.call hb⟩
theorem Bo.call {u w : World} {B : Nat} {x : Value} (h : Bo u B x) (hb : Below u.heap.size u w) : Bo w B x := ⟨h.a.call hb⟩
theorem Bo.next {u w : World} {B : Nat} {x y : Value} {t : TypeId} (h : Bo u B x) (hb : Below (u.alloc (.cells #[y] t)).heap.size (u.alloc (.cells #[y] t)) w) : Bp w B u.heap.size x y := ⟨(h.a.alloc _).call hb, (box1 hb).a⟩

set_option maxRecDepth 100000 in
set_option maxHeartbeats 16000000 in
theorem listVar_calls (M bb : Nat) (d : FD) (x : FA) (kb ko kc i : Nat) (w : World) (h : BB M bb d x w) (hi : i < d.nn) (hk : (d.nd i).k = 26) (hr : 0 < (d.nd i).rn) (hr0 : (d.nd i).r 0 = 0) (hkb : kb < w.heap.size) (hc : w.cell? ⟨kb, ko, none⟩ = some (.int .i64 (i : Int))) :
    Calls Tryz.prog 176 #[ptr bb, .slice (some ⟨kb, ko, none⟩) 1 kc] w fun e w' => ∃ L1 L2 O V1 V2 B1, e = .returned (listV L1 L2 B1) ∧ Ls w L1 L2 O V1 V2 w' := by
  have HB : Hid (BB M bb d x w) := h
  have hmf := mkFunc'
  clear h
  go_enter Tryz.func176, Tryz.ntmps176
  go_upto_region 4 with fail
  obtain ⟨w0, hw0⟩ : ∃ w0, w.alloc (.cells #[ptr bb] 109) = w0 := ⟨_, rfl⟩
  have HW0 : Hid (Below w.heap.size w w0) := by rw [← hw0]; exact below_alloc _ _
  have H0 : Hid (BB M bb d x w0 ∧ w.heap.size < w0.heap.size) := ⟨HB.out.call HW0.out, by rw [← hw0]; simp⟩
  have e0 : w0.cell? ⟨w.heap.size, 0, none⟩ = some (ptr bb) := by rw [← hw0]; exact (Has.new w _ _).cell 0 rfl
  have e1 : w0.cell? ⟨kb, ko, none⟩ = some (.int .i64 (i : Int)) := (HW0.out.cell (p := ⟨kb, ko, none⟩) hkb).trans hc
  rw [hw0]
  have hkb0 : kb < w0.heap.size := by have := H0.out.2; omega
  have HC : Hid (∀ u, Below w0.heap.size w0 u → u.cell? ⟨w.heap.size, 0, none⟩ = some (ptr bb) ∧ u.cell? ⟨kb, ko, none⟩ = some (.int .i64 (i : Int))) := fun u hu => ⟨(hu.cell (p := ⟨w.heap.size, 0, none⟩) H0.out.2).trans e0, (hu.cell (p := ⟨kb, ko, none⟩) hkb0).trans e1⟩
  clear hw0 hc e0 e1
  go_region_held3 (fun u => u.cell? ⟨w.heap.size, 0, none⟩ = some (ptr bb) ∧ u.cell? ⟨kb, ko, none⟩ = some (.int .i64 (i : Int))) (first | (refine HC.out _ ?_; (repeat (first | exact HB2.out.1 | exact HB1.out.1 | exact bl_refl _ | refine bl_alloc ?_ _ | refine bl_drew ?_ | refine bl_set ?_ _ (by have h1 := HB1.out.1.size; have h2 := HB2.out.1.size; have h3 := HB2.out.2.1; omega))); done))
   (first
    | (go_at_call 204; refine (onesB_calls M bb d x _ 0 _ (fun _ => 0) _ ?_ (by omega) (fun j hj => absurd hj (by omega)) (fun h => absurd h (by omega))).mono ?_; (refine H0.out.1.call ?_; (repeat (first | exact bl_refl _ | refine bl_alloc ?_ _ | refine bl_drew ?_))); rintro e w1 ⟨⟨O, oa, oc, Bs, rfl, hO1, hO2, _, _, hO3⟩, hb1⟩; obtain ⟨rfl, rfl⟩ := hO3 rfl; have HB1 : Hid (Below w0.heap.size w0 w1 ∧ w0.heap.size ≤ O ∧ Has w1 O #[.slice none 0 0]) := (by
        have hx : Below w0.heap.size w0 w1 := (by refine below_call ?_ hb1; (repeat (first | exact bl_refl _ | refine bl_alloc ?_ _ | refine bl_drew ?_)))
        refine ⟨hx, ?_, hO2⟩
        simp at hO1
        omega); (first | (have hx := box00 hb1; have m1 := hx.b.1.1) | (have hx := box0 hb1; have m1 := hx.a.1.1; have m2 := Nat.ne_of_lt m1; have m3 := Nat.ne_of_gt m1) | (have hx := True.intro)); have HO : Hid (_ ≤ O ∧ O < w1.heap.size) := ⟨hO1, hO2.1⟩; clear hb1 hO1 hO2 hO3)
    | (go_at_call 169; refine (allVar_calls M bb d x i _ ?_ hi hk hr hr0).mono ?_; (refine H0.out.1.call ?_; (repeat (first | exact HB1.out.1 | refine bl_alloc ?_ _))); rintro e w2 ⟨⟨V1, V2, rfl, hV1, hV2, hV3, hV4⟩, hb2⟩; have HB2 : Hid (Below w0.heap.size w0 w2 ∧ w1.heap.size ≤ w2.heap.size ∧ w1.heap.size ≤ V1 ∧ w1.heap.size ≤ V2 ∧ Has w2 O #[.slice none 0 0] ∧ Has w2 V1 #[varV V2] ∧ Has w2 V2 #[.int .i64 0]) := (by
        have hx : Below w1.heap.size w1 w2 := (by refine below_call ?_ hb2; (repeat (first | exact bl_refl _ | refine bl_alloc ?_ _)))
        refine ⟨below_call HB1.out.1 hx, hx.size, ?_, ?_, HB1.out.2.2.call hx, hV3, hV4⟩
        · (try simp at hV1); omega
        · (try simp at hV2); omega); (first | (have hy := Bp.call hx hb2) | (have hy := Bo.next hx hb2) | (have hy := Bo.call hx hb2) | (have hy := box2 hb2) | (have hy := box1 hb2) | (have hy := True.intro)); (first | (have c1 := hy.a.1.cell 0 rfl; have z1 := hy.a.2; have l1 := hy.a.1.1; have c2 := hy.b.1.cell 0 rfl; have z2 := hy.b.2; have l2 := hy.b.1.1; have n1 := Nat.ne_of_lt l1; have n2 := Nat.ne_of_gt l1; have n3 := Nat.ne_of_lt l2; have n4 := Nat.ne_of_gt l2) | (have c1 := hy.a.1.cell 0 rfl; have z1 := hy.a.2; have l1 := hy.a.1.1; have n1 := Nat.ne_of_lt l1; have n2 := Nat.ne_of_gt l1) | skip); have HV : Hid (_ ≤ V1 ∧ _ ≤ V2) := ⟨hV1, hV2⟩; clear hb2 hV1 hV2 hV3 hV4))
  all_goals
    go_wp2_with fail
    go_ret
    have q1 := H0.out.2
    have q2 := HB1.out.1.size
    have q3 := HB1.out.2.1
    obtain ⟨q4, q5, q6, q7, q8, q9, q10⟩ := HB2.out
    have q11 := q4.size
    have q12 := HW0.out
    obtain ⟨q13, q14⟩ := HO.out
    obtain ⟨q15, q16⟩ := HV.out
    try simp at q13
    try simp at q15
    try simp at q16
    refine ⟨_, _, O, V1, V2, _, rfl, ⟨by omega, ?_⟩, ⟨by omega, ?_⟩, ⟨by omega, ?_⟩, ⟨by omega, ?_⟩, ⟨by omega, ?_⟩, below_call q12 ?_⟩
    all_goals (repeat (first | with_reducible exact q8 | with_reducible exact q9 | with_reducible exact q10 | with_reducible exact q4 | with_reducible exact Has.new _ _ _ | with_reducible exact has_new1 _ _ _ _ | with_reducible exact has_newS _ _ _ _ _ | with_reducible refine Has.alloc ?_ _ | with_reducible refine bl_alloc ?_ _ | (with_reducible refine bl_set ?_ _ (by omega)) | with_reducible exact hy.a | with_reducible exact hy.b | with_reducible exact OwnB.new _ _ _ | with_reducible exact own_new1 _ _ _ _ | with_reducible refine OwnB.alloc ?_ _ | with_reducible refine has_same (x := .nilFunc) ?_ | (with_reducible refine has_other ?_ (by omega)) | (with_reducible refine own_other ?_ (by omega))))
end Go.Proofs.YtdialodjllpgaaaGreatDoor

/-! The program's check of a unit: forms. -/
namespace Go.Proofs.YtdialodjllpgaaaGreatDoor
open Go.RowKit
attribute [local go_sem] run_store_float
attribute [local go_sem ↓] Go.wp_at_zero Go.wp_at_succ

set_option maxRecDepth 100000 in
set_option maxHeartbeats 8000000 in
theorem fo_count (F m : Nat) (nd : Nat → ND) (nas : Nat → NA) (w : World) (hA : AH w F m nd nas) (hN : NodeAt 0 w (nd m) (nas m)) (hs : (nd m).sm) (hcap : (nd m).kn ≤ (nas m).kc) :
    Calls Tryz.prog 104 #[.pointer (some ⟨F, 0, none⟩), nodeV (nd m) (nas m)] w fun e w' => e = .returned (.bool (uoB (nd m) false false false false true true && (((nd m).rn : Int) == 1 && (((nd m).kn : Int) == 4 && kidS sEx nd m ((nd m).c 0) && kidS sEx nd m ((nd m).c 1) && kidS sEx nd m ((nd m).c 2) && kidS sBl nd m ((nd m).c 3))))) ∧ Below w.heap.size w w' := by
  have HA : Hid (AH w F m nd nas) := hA
  have HN : Hid (NodeAt 0 w (nd m) (nas m)) := hN
  have hkn := hs.kn
  have hrn := hs.rn
  have hsz := hs.s
  clear hA hN hs
  go_enter Tryz.func104, Tryz.ntmps104
  go_wp2_with (first | (go_at_call 153; refine (uo48_calls (nd m) (nas m) _).mono ?_; rintro e w2 ⟨rfl, hb2⟩; have HB2 : Hid (Below w.heap.size w w2) := below_call (below_alloc _ _) hb2; have n2 : w2.cell? ⟨w.heap.size, 2, none⟩ = some (.int .i64 (nd m).o) := (Has.made hb2).cell 2 rfl; have n3 : w2.cell? ⟨w.heap.size, 3, none⟩ = some (.int .i64 (nd m).n) := (Has.made hb2).cell 3 rfl; have n4 : w2.cell? ⟨w.heap.size, 4, none⟩ = some (.float .f64 (nd m).f) := (Has.made hb2).cell 4 rfl; have n5 : w2.cell? ⟨w.heap.size, 5, none⟩ = some (.string (nd m).s) := (Has.made hb2).cell 5 rfl; have n6 : w2.cell? ⟨w.heap.size, 6, none⟩ = some (.slice (nas m).ra (nd m).rn (nas m).rc) := (Has.made hb2).cell 6 rfl; have n7 : w2.cell? ⟨w.heap.size, 7, none⟩ = some (.slice (nas m).ka (nd m).kn (nas m).kc) := (Has.made hb2).cell 7 rfl; have hz2 : w.heap.size < w2.heap.size := (Has.made hb2).lt; clear hb2) | (go_at_call 155; refine (row4_calls F m nd nas _ _ _ (nd m).c _ 549754765312 549754765312 549754765312 2 _ (by decide) (by decide) (by decide) (by decide) (by omega) hcap (HA.out.below (below_a' HB2.out _)) (RowN.below HN.out.2 (below_a' HB2.out _)) (by simp) (by simp) (by simp) (by simp)).mono ?_; rintro e w1 ⟨rfl, rfl⟩))
  all_goals go_ret
  all_goals refine ⟨ret_bool ?_, by first | exact HB2.out | exact below_a' HB2.out _ | exact below_a' (below_a' HB2.out _) _⟩
  all_goals first | rfl | (simp [*]; done) | (simp [*]; omega) | (simp [*]; intros; omega)

set_option maxRecDepth 100000 in
set_option maxHeartbeats 8000000 in
theorem fo_each (F m : Nat) (nd : Nat → ND) (nas : Nat → NA) (w : World) (hA : AH w F m nd nas) (hN : NodeAt 0 w (nd m) (nas m)) (hs : (nd m).sm) (hcap : (nd m).kn ≤ (nas m).kc) :
    Calls Tryz.prog 105 #[.pointer (some ⟨F, 0, none⟩), nodeV (nd m) (nas m)] w fun e w' => e = .returned (.bool (uoB (nd m) false false false false true true && (btB (nd m).rn 1 4 && (((nd m).kn : Int) == 2 && kidS sEx nd m ((nd m).c 0) && kidS sBl nd m ((nd m).c 1))))) ∧ Below w.heap.size w w' := by
  have HA : Hid (AH w F m nd nas) := hA
  have HN : Hid (NodeAt 0 w (nd m) (nas m)) := hN
  have hkn := hs.kn
  have hrn := hs.rn
  have hsz := hs.s
  clear hA hN hs
  go_enter Tryz.func105, Tryz.ntmps105
  go_wp2_with (first | (go_at_call 153; refine (uo48_calls (nd m) (nas m) _).mono ?_; rintro e w2 ⟨rfl, hb2⟩; have HB2 : Hid (Below w.heap.size w w2) := below_call (below_alloc _ _) hb2; have n2 : w2.cell? ⟨w.heap.size, 2, none⟩ = some (.int .i64 (nd m).o) := (Has.made hb2).cell 2 rfl; have n3 : w2.cell? ⟨w.heap.size, 3, none⟩ = some (.int .i64 (nd m).n) := (Has.made hb2).cell 3 rfl; have n4 : w2.cell? ⟨w.heap.size, 4, none⟩ = some (.float .f64 (nd m).f) := (Has.made hb2).cell 4 rfl; have n5 : w2.cell? ⟨w.heap.size, 5, none⟩ = some (.string (nd m).s) := (Has.made hb2).cell 5 rfl; have n6 : w2.cell? ⟨w.heap.size, 6, none⟩ = some (.slice (nas m).ra (nd m).rn (nas m).rc) := (Has.made hb2).cell 6 rfl; have n7 : w2.cell? ⟨w.heap.size, 7, none⟩ = some (.slice (nas m).ka (nd m).kn (nas m).kc) := (Has.made hb2).cell 7 rfl; have hz2 : w.heap.size < w2.heap.size := (Has.made hb2).lt; clear hb2) | (go_at_call 42; refine (between_calls _ _ _ _).mono ?_; rintro e w1 ⟨rfl, rfl⟩) | (go_at_call 155; refine (row2_calls F m nd nas _ _ _ (nd m).c _ 549754765312 2 _ (by decide) (by decide) (by omega) hcap (HA.out.below (below_a' HB2.out _)) (RowN.below HN.out.2 (below_a' HB2.out _)) (by simp) (by simp)).mono ?_; rintro e w1 ⟨rfl, rfl⟩))
  all_goals go_ret
  all_goals refine ⟨ret_bool ?_, by first | exact HB2.out | exact below_a' HB2.out _ | exact below_a' (below_a' HB2.out _) _⟩
  all_goals first | rfl | (simp [*]; done) | (simp [*]; omega) | (simp [*]; intros; omega)

end Go.Proofs.YtdialodjllpgaaaGreatDoor

/-! The program's check of a unit: the visitor of forms. -/
namespace Go.Proofs.YtdialodjllpgaaaGreatDoor
open Go.RowKit
attribute [local go_sem] run_store_float
attribute [local go_sem ↓] Go.wp_at_zero Go.wp_at_succ

/-- many cells of the block that was made last -/
def setL : Array Value → Nat → List Value → Array Value
  | c, _, [] => c
  | c, o, v :: r => setL (c.setIfInBounds o v) (o + 1) r
theorem setCells_new (w : World) (t : TypeId) : ∀ (vs : List Value) (o : Nat) (c : Array Value), (w.alloc (.cells c t)).setCells w.heap.size o vs = w.alloc (.cells (setL c o vs) t)
  | [], _, _ => rfl
  | v :: r, o, c => by
    show ((w.alloc (.cells c t)).setCell ⟨w.heap.size, o, none⟩ v).setCells w.heap.size (o + 1) r = _
    rw [World.setCell_alloc_at _ _ _ _ _ rfl]
    exact setCells_new w t r (o + 1) _
theorem there_new (w : World) (t : TypeId) (c : Array Value) (o n : Nat) (h : o + n ≤ c.size) : (w.alloc (.cells c t)).there w.heap.size o n := fun j hj => by
  have hc : (w.alloc (.cells c t)).cell? ⟨w.heap.size, o + j, none⟩ = c[o + j]? := World.cell?_alloc_new w c t (o + j)
  rw [hc, Array.getElem?_eq_getElem (by omega)]
  exact ⟨rfl, by simp [go_sem]⟩

/-- a method of the visitor at F as a value -/
abbrev mv (F f : Nat) : Value := .func (Fn.func f) #[.pointer (some ⟨F, 0, none⟩)] #[]
/-- the visitor's cells -/
abbrev frmC (F : Nat) (s : Value) : Array Value := #[s, .nilFunc, mv F 98, mv F 99, mv F 100, mv F 101, mv F 102, mv F 103, mv F 104, mv F 105, mv F 106, mv F 106, mv F 107, mv F 108, mv F 109, mv F 101, .nilFunc, .nilFunc, .nilFunc, .nilFunc, .nilFunc, mv F 106, mv F 106, mv F 106, mv F 110, mv F 111, mv F 112, mv F 113, mv F 113, mv F 114, mv F 115, mv F 115, mv F 116, mv F 117, mv F 115, mv F 118, mv F 119, mv F 113, mv F 106, mv F 120]
/-- the method of a kind -/
def stN : Nat → Nat
  | 1 => 98
  | 2 => 99
  | 3 => 100
  | 4 => 101
  | 5 => 102
  | 6 => 103
  | 7 => 104
  | 8 => 105
  | 9 => 106
  | 10 => 106
  | 11 => 107
  | 12 => 108
  | 13 => 109
  | 14 => 101
  | 20 => 106
  | 21 => 106
  | 22 => 106
  | 23 => 110
  | 24 => 111
  | 25 => 112
  | 26 => 113
  | 27 => 113
  | 28 => 114
  | 29 => 115
  | 30 => 115
  | 31 => 116
  | 32 => 117
  | 33 => 115
  | 34 => 118
  | 35 => 119
  | 36 => 113
  | 37 => 106
  | 38 => 120
  | _ => 0

abbrev zrC : Array Value := #[.slice none 0 0, .nilFunc, .nilFunc, .nilFunc, .nilFunc, .nilFunc, .nilFunc, .nilFunc, .nilFunc, .nilFunc, .nilFunc, .nilFunc, .nilFunc, .nilFunc, .nilFunc, .nilFunc, .nilFunc, .nilFunc, .nilFunc, .nilFunc, .nilFunc, .nilFunc, .nilFunc, .nilFunc, .nilFunc, .nilFunc, .nilFunc, .nilFunc, .nilFunc, .nilFunc, .nilFunc, .nilFunc, .nilFunc, .nilFunc, .nilFunc, .nilFunc, .nilFunc, .nilFunc, .nilFunc, .nilFunc]
abbrev mvC (F : Nat) : Array Value := #[.nilFunc, mv F 98, mv F 99, mv F 100, mv F 101, mv F 102, mv F 103, mv F 104, mv F 105, mv F 106, mv F 106, mv F 107, mv F 108, mv F 109, mv F 101, .nilFunc, .nilFunc, .nilFunc, .nilFunc, .nilFunc, mv F 106, mv F 106, mv F 106, mv F 110, mv F 111, mv F 112, mv F 113, mv F 113, mv F 114, mv F 115, mv F 115, mv F 116, mv F 117, mv F 115, mv F 118, mv F 119, mv F 113, mv F 106, mv F 120]
theorem mv_size : (Tryz.prog.info? 202).map (·.size) = some 39 := by kernel_rfl
theorem mv_one (F : Nat) : (mvC F).all (·.oneCell') = true := by simp [Value.oneCell']
set_option maxRecDepth 100000 in
theorem mv_set (F : Nat) : setL zrC 1 (mvC F).toList = frmC F (.slice none 0 0) := by kernel_rfl
end Go.Proofs.YtdialodjllpgaaaGreatDoor

/-! The program's check of a unit: how deep it nests, given what depthsOf answers. -/
namespace Go.Proofs.YtdialodjllpgaaaGreatDoor
open Go.RowKit
attribute [local go_sem] run_store_float
attribute [local go_sem ↓] Go.wp_at_zero Go.wp_at_succ

def NestBig (u : UD) (f n : Nat) : Prop := 100 < depP (parP (u.fn f).nd (u.fn f).nn) (u.fn f).nn ((u.fn f).nn - 1) n
theorem bad5_yes {u : UD} {f n : Nat} (hf : f < u.n) (hn : n < (u.fn f).nn) (h3 : ∀ f', f' < f → ∀ n', n' < (u.fn f').nn → ¬ NestBig u f' n') (h4 : ∀ n', n' < n → ¬ NestBig u f n') (h5 : NestBig u f n) : Least (Bad5 u) ⟨5, f, n⟩ := At2.least (by decide) h3 h4 hf hn h5
theorem bad5_no {u : UD} (h2 : ∀ f', f' < u.n → ∀ n', n' < (u.fn f').nn → ¬ NestBig u f' n') : Least (Bad5 u) ft0 := Least.zero (At2.none h2)
/-- what depthsOf is to answer (not shown here) -/
def DepSays : Prop := ∀ (L : Nat) (d : FD) (x : FA) (w : World), d.nn ≤ 3000 → KidsIn d.nd d.nn → (∀ i, i < d.nn → (d.nd i).kn ≤ 200) → FnAt L w d x →
  Calls Tryz.prog 76 #[fnV d x] w fun e w' => (∃ B, e = .returned (.slice (some ⟨B, 0, none⟩) d.nn d.nn) ∧ w.heap.size ≤ B ∧ CRow w' B d.nn (nodesD d.nd d.nn d.nn)) ∧ Below w.heap.size w w'

set_option maxRecDepth 100000 in
set_option maxHeartbeats 4000000 in
theorem nestFault_of (hD : DepSays) (L : Nat) (u : UD) (a : Option Addr) (cap : Nat) (fas : Nat → FA) (w : World) (h5 : U5 u) (hT : FnsAt L w u.n u.fn a fas) :
    Calls Tryz.prog 38 #[unV u a cap] w fun e w' => FtPost (Bad5 u) w e w' := by
  have HD : Hid DepSays := hD
  have HT : Hid (FnsAt L w u.n u.fn a fas) := hT
  have H5 : Hid (U5 u) := h5
  have hun := h5.size.2.1
  obtain ⟨b, off, e0, _, hb, _⟩ := cells7 hT.1 (show 0 < u.n from h5.size.1)
  subst e0
  clear hT h5 hD
  go_enter Tryz.func38, Tryz.ntmps38
  go_wp2_with fail
  go_loopw [10] (fun i wr => ∃ (k : Nat), k ≤ u.n ∧ i = .int .i64 k ∧ Hid (∀ f', f' < k → ∀ n', n' < (u.fn f').nn → ¬ NestBig u f' n') ∧ Hid (Below (fxW w u (some ⟨b, off, none⟩) cap).heap.size (fxW w u (some ⟨b, off, none⟩) cap) wr)) (fun i _ => u.n - (intOf i).toNat)
  case atStart => exact ⟨0, Nat.zero_le _, rfl, fun f' hf' => by omega, Below.refl _ _⟩
  case round =>
    obtain ⟨k, hk, rfl, HF, HB⟩ := hrel
    by_cases hkn : k < u.n
    · have HTr : Hid (FnsAt L wr u.n u.fn (some ⟨b, off, none⟩) fas) := HT.out.below (fx_below HB.out)
      obtain ⟨b', off', e0, _, hbz, d0, d1, d2, d3, d4, d5, d6⟩ := cells7 HTr.out.1 hkn
      obtain ⟨rfl, rfl⟩ : b = b' ∧ off = off' := by simpa using e0
      clear e0
      have hnn := H5.out.toU3.nn hkn
      have HK2 : Hid (∀ i, i < (u.fn k).nn → ((u.fn k).nd i).kn ≤ 200) := fun i hi => (H5.out.toU3.facts hkn hi).kn
      rename World => wa
      go_wp2_with (go_at_call 76; refine (HD.out L (u.fn k) (fas k) _ hnn.1 (H5.out.toU3.kids hkn) HK2.out ((HTr.out.2 k hkn).alloc _)).mono ?_; rintro e w8 ⟨⟨B, rfl, hBz, hR⟩, hb8⟩; have HR8 : Hid (CRow w8 B (u.fn k).nn (nodesD (u.fn k).nd (u.fn k).nn (u.fn k).nn)) := hR; clear hR)
      clear d0 d1 d2 d3 d4 d5 d6
      have HB8 : Hid (Below (fxW w u (some ⟨b, off, none⟩) cap).heap.size (fxW w u (some ⟨b, off, none⟩) cap) w8) := below_call HB.out (below_call (below_alloc _ _) hb8)
      clear HB hb8 HTr hBz
      go_loopw [18] (fun i wr => ∃ (m : Nat), m ≤ (u.fn k).nn ∧ i = .int .i64 m ∧ Hid (∀ n', n' < m → ¬ NestBig u k n') ∧ wr = w8) (fun i _ => (u.fn k).nn - (intOf i).toNat)
      case atStart => exact ⟨0, Nat.zero_le _, rfl, fun f' hf' => by omega, rfl⟩
      case round =>
        obtain ⟨m, hm, rfl, HN, rfl⟩ := hrel
        by_cases hmn : m < (u.fn k).nn
        · have r0 := World.rowIs.cell HR8.out (i := m) hmn
          have hBw := World.rowIs.lt HR8.out
          have hds := dep_same (H5.out.tree k hkn) hmn
          have s0 := (fx_row HB8.out).cell (i := 0) (by omega)
          have s1 := (fx_row HB8.out).cell (i := 1) (by omega)
          have s2 := (fx_row HB8.out).cell (i := 2) (by omega)
          have sz := (fx_row HB8.out).frozen
          by_cases hp : 100 < nodesD (u.fn k).nd (u.fn k).nn (u.fn k).nn m
          · have HL : Hid (Least (Bad5 u) ⟨5, k, m⟩) := bad5_yes hkn hmn HF.out HN.out (by unfold NestBig; rw [← hds]; exact hp)
            clear hds
            go_wp2_with fail
            refine bodyPost_ret (v := ftV ⟨5, k, m⟩) (by simp [results, Tryz.results38, go_sem, s0, s1, s2]) rfl ?_
            exact FtPost.of HL.out (fx_out (fx_below HB8.out) _ _ _)
          · have HG : Hid (¬ NestBig u k m) := by
              show ¬ (100 < _)
              rw [← hds]
              exact hp
            clear hds
            go_wp2_with fail
            go_roundw
            case rel => exact ⟨m + 1, by omega, by go_num, fun j hj => by
              by_cases e : j = m
              · subst e; exact HG.out
              · exact HN.out j (by omega), by first | rfl | trivial⟩
            case measure => simp [intOf]; omega
        · obtain rfl : m = (u.fn k).nn := by omega
          go_wp2_with fail
          go_roundw
          case rel => exact ⟨k + 1, by omega, by go_num, fun j hj => by
            by_cases e : j = k
            · subst e; exact HN.out
            · exact HF.out j (by omega), HB8⟩
          case measure => simp [intOf]; omega
    · obtain rfl : k = u.n := by omega
      have HL : Hid (Least (Bad5 u) ⟨0, 0, 0⟩) := bad5_no HF.out
      have s0 := (fx_row HB.out).cell (i := 0) (by omega)
      have s1 := (fx_row HB.out).cell (i := 1) (by omega)
      have s2 := (fx_row HB.out).cell (i := 2) (by omega)
      have sz := (fx_row HB.out).frozen
      go_wp2_with fail
      refine bodyPost_ret (v := ftV ⟨0, 0, 0⟩) (by simp [results, Tryz.results38, go_sem, s0, s1, s2]) rfl ?_
      exact FtPost.of HL.out (fx_out (fx_below HB.out) _ _ _)
end Go.Proofs.YtdialodjllpgaaaGreatDoor

/-! The program's check of a unit: the first of two faults. -/
namespace Go.Proofs.YtdialodjllpgaaaGreatDoor
open Go.RowKit
attribute [local go_sem] run_store_float
attribute [local go_sem ↓] Go.wp_at_zero Go.wp_at_succ

def cmpIr (a b : Int) : Int := if a < b then -1 else if b < a then 1 else 0
set_option maxRecDepth 100000 in
set_option maxHeartbeats 2000000 in
theorem isNaNI_calls (a : Int) (w : World) : Calls Tryz.prog 159 #[.int .i64 a] w fun e w' => e = .returned (.bool false) ∧ w' = w := by
  go_enter Tryz.func159, Tryz.ntmps159
  go_wp2_with fail
  go_ret
  exact ⟨by simp, rfl⟩
set_option maxRecDepth 100000 in
set_option maxHeartbeats 2000000 in
theorem compareI_calls (a b : Int) (w : World) : Calls Tryz.prog 125 #[.int .i64 a, .int .i64 b] w fun e w' => e = .returned (.int .i64 (cmpIr a b)) ∧ w' = w := by
  go_enter Tryz.func125, Tryz.ntmps125
  go_wp2_with (go_at_call 159; refine (isNaNI_calls _ _).mono ?_; rintro e w1 ⟨rfl, rfl⟩)
  all_goals go_ret
  all_goals exact ⟨ret_int (by unfold cmpIr; (repeat split) <;> first | rfl | omega), rfl⟩
def or3 (x y z : Int) : Int := if x = 0 then (if y = 0 then z else y) else x
set_option maxRecDepth 100000 in
set_option maxHeartbeats 2000000 in
theorem orI_calls (x y z : Int) (R : Nat) (w : World) (h0 : w.cell? ⟨R, 0, none⟩ = some (.int .i64 x)) (h1 : w.cell? ⟨R, 1, none⟩ = some (.int .i64 y)) (h2 : w.cell? ⟨R, 2, none⟩ = some (.int .i64 z)) : Calls Tryz.prog 124 #[.slice (some ⟨R, 0, none⟩) 3 3] w fun e w' => e = .returned (.int .i64 (or3 x y z)) ∧ w' = w := by
  by_cases c0 : x = 0
  · by_cases c1 : y = 0
    · by_cases c2 : z = 0
      · subst c0 c1 c2
        go_enter Tryz.func124, Tryz.ntmps124
        go_wp2_with fail
        refine wp_loop_rounds 4 ?_
        rw [rounds_succ]; go_wp2_with fail
        rw [rounds_succ]; go_wp2_with fail
        rw [rounds_succ]; go_wp2_with fail
        rw [rounds_succ]; go_wp2_with fail
        go_ret
        exact ⟨rfl, rfl⟩
      · have q2 : (z != 0) = true := by simpa using c2
        subst c0 c1
        go_enter Tryz.func124, Tryz.ntmps124
        go_wp2_with fail
        refine wp_loop_rounds 3 ?_
        rw [rounds_succ]; go_wp2_with fail
        rw [rounds_succ]; go_wp2_with fail
        rw [rounds_succ]; go_wp2_with fail
        go_ret
        exact ⟨rfl, rfl⟩
    · have q1 : (y != 0) = true := by simpa using c1
      have hv : or3 x y z = y := by unfold or3; rw [if_pos c0, if_neg c1]
      rw [hv]
      subst c0
      go_enter Tryz.func124, Tryz.ntmps124
      go_wp2_with fail
      refine wp_loop_rounds 2 ?_
      rw [rounds_succ]; go_wp2_with fail
      rw [rounds_succ]; go_wp2_with fail
      go_ret
      exact ⟨rfl, rfl⟩
  · have q0 : (x != 0) = true := by simpa using c0
    have hv : or3 x y z = x := by unfold or3; rw [if_neg c0]
    rw [hv]
    go_enter Tryz.func124, Tryz.ntmps124
    go_wp2_with fail
    refine wp_loop_rounds 1 ?_
    rw [rounds_succ]; go_wp2_with fail
    go_ret
    exact ⟨rfl, rfl⟩

theorem comes_iff (a b : FT) : 0 < or3 (cmpIr a.c b.c) (cmpIr a.f b.f) (cmpIr a.n b.n) ↔ ¬ a.le b := by
  unfold or3 cmpIr FT.le
  (repeat split) <;> omega

/-- behind the boxes of two faults and the result -/
abbrev f2W (w : World) (a b : FT) : World := ((w.alloc (.cells #[.int .i64 (a.c : Int), .int .i64 (a.f : Int), .int .i64 (a.n : Int)] 59)).alloc (.cells #[.int .i64 (b.c : Int), .int .i64 (b.f : Int), .int .i64 (b.n : Int)] 59)).alloc (.cells #[.int .i64 0, .int .i64 0, .int .i64 0] 59)

abbrev F2S (B ac af an bc bf bn : Nat) (w' : World) : Prop := w'.cell? ⟨B, 0, none⟩ = some (.int .i64 (ac : Int)) ∧ w'.cell? ⟨B, 1, none⟩ = some (.int .i64 (af : Int)) ∧ w'.cell? ⟨B, 2, none⟩ = some (.int .i64 (an : Int)) ∧ w'.cell? ⟨B + 1, 0, none⟩ = some (.int .i64 (bc : Int)) ∧ w'.cell? ⟨B + 1, 1, none⟩ = some (.int .i64 (bf : Int)) ∧ w'.cell? ⟨B + 1, 2, none⟩ = some (.int .i64 (bn : Int))
theorem f2_below {w wr : World} {a b : FT} (h : Below (f2W w a b).heap.size (f2W w a b) wr) : Below w.heap.size w wr := below_call (below_alloc3 w _ _ _) h
theorem f2_cells {w wr : World} {ac af an bc bf bn : Nat} (h : Below (f2W w ⟨ac, af, an⟩ ⟨bc, bf, bn⟩).heap.size (f2W w ⟨ac, af, an⟩ ⟨bc, bf, bn⟩) wr) : F2S w.heap.size ac af an bc bf bn wr := by
  have h1 : Has wr w.heap.size #[.int .i64 (ac : Int), .int .i64 (af : Int), .int .i64 (an : Int)] := (((Has.new w _ _).alloc _).alloc _).call h
  have h2 : Has wr (w.heap.size + 1) #[.int .i64 (bc : Int), .int .i64 (bf : Int), .int .i64 (bn : Int)] := by
    have := ((Has.new (w.alloc (.cells #[.int .i64 (ac : Int), .int .i64 (af : Int), .int .i64 (an : Int)] 59)) #[.int .i64 (bc : Int), .int .i64 (bf : Int), .int .i64 (bn : Int)] 59).alloc (.cells #[.int .i64 0, .int .i64 0, .int .i64 0] 59)).call h
    simpa using this
  exact ⟨h1.cell 0 rfl, h1.cell 1 rfl, h1.cell 2 rfl, h2.cell 0 rfl, h2.cell 1 rfl, h2.cell 2 rfl⟩
theorem f2_row {w wr : World} {a b : FT} (h : Below (f2W w a b).heap.size (f2W w a b) wr) : wr.rowIs (w.heap.size + 1 + 1) 59 3 (fun _ => .int .i64 0) := by
  have h1 := World.rowIs_alloc ((w.alloc (.cells #[.int .i64 (a.c : Int), .int .i64 (a.f : Int), .int .i64 (a.n : Int)] 59)).alloc (.cells #[.int .i64 (b.c : Int), .int .i64 (b.f : Int), .int .i64 (b.n : Int)] 59)) #[.int .i64 0, .int .i64 0, .int .i64 0] 59 (fun _ => .int .i64 0) (fun i hi => by
    have : i = 0 ∨ i = 1 ∨ i = 2 := by simp at hi; omega
    rcases this with rfl | rfl | rfl <;> rfl)
  have h2 := h1.of_block (h.block _ h1.lt)
  simpa using h2

set_option maxRecDepth 100000 in
set_option maxHeartbeats 4000000 in
theorem firstOf_calls (a b : FT) (w : World) : Calls Tryz.prog 77 #[ftV a, ftV b] w fun e w' => e = .returned (ftV (fstOf a b)) ∧ Below w.heap.size w w' := by
  obtain ⟨ac, af, an⟩ := a
  obtain ⟨bc, bf, bn⟩ := b
  go_enter Tryz.func77, Tryz.ntmps77
  go_upto_region 1 with fail
  obtain ⟨w3, HB, hw3⟩ : ∃ w3, Hid (Below (f2W w ⟨ac, af, an⟩ ⟨bc, bf, bn⟩).heap.size (f2W w ⟨ac, af, an⟩ ⟨bc, bf, bn⟩) w3) ∧ f2W w ⟨ac, af, an⟩ ⟨bc, bf, bn⟩ = w3 := ⟨_, Below.refl _ _, rfl⟩
  simp only [f2W] at hw3
  rw [hw3]
  clear hw3
  have HS : Hid (∀ W, Below w3.heap.size w3 W → F2S w.heap.size ac af an bc bf bn W) := fun W hW => f2_cells (below_call HB.out hW)
  have HBw : Hid (Below w.heap.size w w3) := f2_below HB.out
  go_region_held3 (fun w' => w'.cell? ⟨w.heap.size, 0, none⟩ = some (.int .i64 (ac : Int)) ∧ w'.cell? ⟨w.heap.size, 1, none⟩ = some (.int .i64 (af : Int)) ∧ w'.cell? ⟨w.heap.size, 2, none⟩ = some (.int .i64 (an : Int)) ∧ w'.cell? ⟨w.heap.size + 1, 0, none⟩ = some (.int .i64 (bc : Int)) ∧ w'.cell? ⟨w.heap.size + 1, 1, none⟩ = some (.int .i64 (bf : Int)) ∧ w'.cell? ⟨w.heap.size + 1, 2, none⟩ = some (.int .i64 (bn : Int))) (first | (with_reducible exact HS.out _ (Below.refl _ _)) | (with_reducible exact HS.out _ (below_alloc _ _)) | (with_reducible exact HS.out _ (Below.refl _ _).drew) | (with_reducible exact HS.out _ (below_alloc _ _).drew)) (first | (go_at_call 125; refine (compareI_calls _ _ _).mono ?_; rintro e w1 ⟨rfl, rfl⟩) | (go_at_call 124; refine (orI_calls (cmpIr (ac : Int) (bc : Int)) (cmpIr (af : Int) (bf : Int)) (cmpIr (an : Int) (bn : Int)) _ _ (by simp) (by simp) (by simp)).mono ?_; rintro e w1 ⟨rfl, rfl⟩))
  obtain ⟨w4, hw4⟩ : ∃ w4, w4 = (w3.alloc (.cells #[.int .i64 (cmpIr (ac : Int) (bc : Int)), .int .i64 (cmpIr (af : Int) (bf : Int)), .int .i64 (cmpIr (an : Int) (bn : Int))] 3)).drew := ⟨_, rfl⟩
  have HB4 : Hid (Below (f2W w ⟨ac, af, an⟩ ⟨bc, bf, bn⟩).heap.size (f2W w ⟨ac, af, an⟩ ⟨bc, bf, bn⟩) w4) := by show Below _ _ _; rw [hw4]; exact (below_a' HB.out _).drew
  rw [← hw4]
  clear hw4 HB HBw
  have HB4w : Hid (Below w.heap.size w w4) := f2_below HB4.out
  obtain ⟨a0, a1, a2, b0, b1, b2⟩ := f2_cells HB4.out
  have s0 := (f2_row HB4.out).cell (i := 0) (by omega)
  have s1 := (f2_row HB4.out).cell (i := 1) (by omega)
  have s2 := (f2_row HB4.out).cell (i := 2) (by omega)
  have sz := (f2_row HB4.out).frozen
  by_cases c0 : ac = 0
  · subst c0
    go_wp2_with fail
    refine bodyPost_ret (v := ftV ⟨bc, bf, bn⟩) (by simp [results, Tryz.results77, go_sem, s0, s1, s2]) rfl ?_
    refine ⟨?_, frS (frS (frS HB4w.out (Nat.le_add_right _ 2) _) (Nat.le_add_right _ 2) _) (Nat.le_add_right _ 2) _⟩
    exact ret_val (by unfold fstOf; rw [if_pos rfl])
  · have q0 : ((ac : Int) == 0) = false := by simp; omega
    by_cases c1 : bc = 0
    · subst c1
      go_wp2_with fail
      refine bodyPost_ret (v := ftV ⟨ac, af, an⟩) (by simp [results, Tryz.results77, go_sem, s0, s1, s2]) rfl ?_
      refine ⟨?_, frS (frS (frS HB4w.out (Nat.le_add_right _ 2) _) (Nat.le_add_right _ 2) _) (Nat.le_add_right _ 2) _⟩
      exact ret_val (by unfold fstOf; rw [if_neg c0, if_neg (fun h => h.1 rfl)])
    · have q1 : ((bc : Int) != 0) = true := by simp; omega
      have hle := comes_iff ⟨ac, af, an⟩ ⟨bc, bf, bn⟩
      by_cases c2 : 0 < or3 (cmpIr (ac : Int) (bc : Int)) (cmpIr (af : Int) (bf : Int)) (cmpIr (an : Int) (bn : Int))
      · have HV : Hid (fstOf ⟨ac, af, an⟩ ⟨bc, bf, bn⟩ = ⟨bc, bf, bn⟩) := by show _ = _; unfold fstOf; rw [if_neg c0, if_pos ⟨c1, hle.1 c2⟩]
        clear hle
        go_wp2_with fail
        refine bodyPost_ret (v := ftV ⟨bc, bf, bn⟩) (by simp [results, Tryz.results77, go_sem, s0, s1, s2]) rfl ?_
        refine ⟨?_, frS (frS (frS HB4w.out (Nat.le_add_right _ 2) _) (Nat.le_add_right _ 2) _) (Nat.le_add_right _ 2) _⟩
        exact ret_val (by rw [HV.out])
      · have HV : Hid (fstOf ⟨ac, af, an⟩ ⟨bc, bf, bn⟩ = ⟨ac, af, an⟩) := by show _ = _; unfold fstOf; rw [if_neg c0, if_neg (fun h => c2 (hle.2 h.2))]
        clear hle
        go_wp2_with fail
        refine bodyPost_ret (v := ftV ⟨ac, af, an⟩) (by simp [results, Tryz.results77, go_sem, s0, s1, s2]) rfl ?_
        refine ⟨?_, frS (frS (frS HB4w.out (Nat.le_add_right _ 2) _) (Nat.le_add_right _ 2) _) (Nat.le_add_right _ 2) _⟩
        exact ret_val (by rw [HV.out])
end Go.Proofs.YtdialodjllpgaaaGreatDoor

/-! The draws: the cursor. -/
namespace Go.Proofs.YtdialodjllpgaaaGreatDoor
open Go.RowKit

/-- a cursor over bytes, in a block of its own -/
structure CXd (B : Nat) (a : Option Addr) (len cap t : Nat) (s : Int) (u : World) : Prop where
  lt : B < u.heap.size
  c : u.cell? ⟨B, 0, none⟩ = some (.slice a len cap) ∧ u.cell? ⟨B, 1, none⟩ = some (.int .i64 (t : Int)) ∧ u.cell? ⟨B, 2, none⟩ = some (.int .u64 s)
  fr : ∀ o, u.frozen? ⟨B, o, none⟩ = false
  row : ∀ i, i < len → ∃ b off z, a = some ⟨b, off, none⟩ ∧ b ≠ B ∧ u.cell? ⟨b, off + i, none⟩ = some (.int .u8 z) ∧ 0 ≤ z ∧ z ≤ 255
def CU (B : Nat) (a : Option Addr) (len cap A : Nat) (u : World) : Prop := ∃ (t : Nat) (s : Int), t ≤ A ∧ CXd B a len cap t s u
theorem CXd.drew {B : Nat} {a : Option Addr} {len cap t : Nat} {s : Int} {u : World} (h : CXd B a len cap t s u) : CXd B a len cap t s u.drew := ⟨h.lt, h.c, h.fr, h.row⟩
theorem CU.mono {B : Nat} {a : Option Addr} {len cap A A' : Nat} {u : World} (h : CU B a len cap A u) (hA : A ≤ A') : CU B a len cap A' u := by obtain ⟨t, s, h1, h2⟩ := h; exact ⟨t, s, by omega, h2⟩
theorem CXd.block {B : Nat} {a : Option Addr} {len cap t : Nat} {s : Int} {u w : World} (h : CXd B a len cap t s u) (hs : u.heap.size ≤ w.heap.size) (hk : ∀ k, k < u.heap.size → w.heap[k]? = u.heap[k]?) : CXd B a len cap t s w := by
  have hB := hk B h.lt
  have e : ∀ o, w.cell? ⟨B, o, none⟩ = u.cell? ⟨B, o, none⟩ := fun o => World.cell?_of_block (a := ⟨B, o, none⟩) hB
  obtain ⟨h0, h1, h2⟩ := h.c
  refine ⟨Nat.lt_of_lt_of_le h.lt hs, ⟨(e 0).trans h0, (e 1).trans h1, (e 2).trans h2⟩, fun o => (World.frozen?_of_block (a := ⟨B, o, none⟩) hB).trans (h.fr o), fun i hi => ?_⟩
  obtain ⟨b, off, z, h1, h2, h3, h4⟩ := h.row i hi
  refine ⟨b, off, z, h1, h2, ?_, h4⟩
  have hb : b < u.heap.size := by
    refine Nat.lt_of_not_le fun hle => ?_
    have : u.heap[b]? = none := Array.getElem?_eq_none hle
    simp [World.cell?, this] at h3
  exact (World.cell?_of_block (a := ⟨b, off + i, none⟩) (hk b hb)).trans h3
theorem CU.call {B : Nat} {a : Option Addr} {len cap A : Nat} {u w : World} (h : CU B a len cap A u) (hb : Below u.heap.size u w) : CU B a len cap A w := by obtain ⟨t, s, h1, h2⟩ := h; exact ⟨t, s, h1, h2.block hb.size fun k hk => hb.block k hk⟩
theorem CXd.set {B : Nat} {a : Option Addr} {len cap t : Nat} {s : Int} {u : World} (h : CXd B a len cap t s u) (t' : Nat) (s' : Int) : CXd B a len cap t' s' ((u.setCell ⟨B, 1, none⟩ (.int .i64 (t' : Int))).setCell ⟨B, 2, none⟩ (.int .u64 s')) := by
  obtain ⟨h0, h1, h2⟩ := h.c
  have hf := h.fr
  refine ⟨by have := h.lt; simpa using this, ⟨by simp [go_sem, h0], by simp [go_sem, h1], by simp [go_sem, h2]⟩, fun o => by simp [go_sem, hf], fun i hi => ?_⟩
  obtain ⟨b, off, z, e1, e2, e3, e4⟩ := h.row i hi
  refine ⟨b, off, z, e1, e2, ?_, e4⟩
  have hk : ((u.setCell ⟨B, 1, none⟩ (.int .i64 (t' : Int))).setCell ⟨B, 2, none⟩ (.int .u64 s')).heap[b]? = u.heap[b]? := (Below.heap_setCell _ ⟨B, 2, none⟩ _ b e2).trans (Below.heap_setCell _ ⟨B, 1, none⟩ _ b e2)
  exact (World.cell?_of_block (a := ⟨b, off + i, none⟩) hk).trans e3
theorem CXd.set' {B : Nat} {a : Option Addr} {len cap t : Nat} {s : Int} {u : World} (h : CXd B a len cap t s u) (t' : Nat) (s' : Int) : CXd B a len cap t' s' ((u.setCell ⟨B, 2, none⟩ (.int .u64 s')).setCell ⟨B, 1, none⟩ (.int .i64 (t' : Int))) := by
  obtain ⟨h0, h1, h2⟩ := h.c
  have hf := h.fr
  refine ⟨by have := h.lt; simpa using this, ⟨by simp [go_sem, h0], by simp [go_sem, h1], by simp [go_sem, h2]⟩, fun o => by simp [go_sem, hf], fun i hi => ?_⟩
  obtain ⟨b, off, z, e1, e2, e3, e4⟩ := h.row i hi
  refine ⟨b, off, z, e1, e2, ?_, e4⟩
  have hk : ((u.setCell ⟨B, 2, none⟩ (.int .u64 s')).setCell ⟨B, 1, none⟩ (.int .i64 (t' : Int))).heap[b]? = u.heap[b]? := (Below.heap_setCell _ ⟨B, 1, none⟩ _ b e2).trans (Below.heap_setCell _ ⟨B, 2, none⟩ _ b e2)
  exact (World.cell?_of_block (a := ⟨b, off + i, none⟩) hk).trans e3
theorem gby_set (w : World) (B o : Nat) (v : Value) : w.grownBy (w.setCell ⟨B, o, none⟩ v) (some B) := ⟨rfl, rfl, rfl, by simp, fun k _ hk => Below.heap_setCell w ⟨B, o, none⟩ v k (fun e => hk (by rw [e]))⟩
theorem gby_trans {a b c : World} {r : Option Nat} (h : a.grownBy b r) (k : b.grownBy c r) : a.grownBy c r := ⟨k.os.trans h.os, k.tape.trans h.tape, k.output.trans h.output, Nat.le_trans h.size k.size, fun i hi hr => (k.block i (Nat.lt_of_lt_of_le hi h.size) hr).trans (h.block i hi hr)⟩
theorem gby_refl (w : World) (r : Option Nat) : w.grownBy w r := ⟨rfl, rfl, rfl, Nat.le_refl _, fun _ _ _ => rfl⟩
theorem gby_drew {a b : World} {r : Option Nat} (h : a.grownBy b r) : a.grownBy b.drew r := ⟨h.os, h.tape, h.output, h.size, h.block⟩
theorem and255 (x : Int) : 0 ≤ wrap64 (bits .and .u64 x 255) ∧ wrap64 (bits .and .u64 x 255) ≤ 255 := by
  have hb : bits .and .u64 x 255 = IntKind.u64.wrap (((BitVec.ofInt 64 x) &&& (BitVec.ofInt 64 255)).toNat : Int) := rfl
  have hle : ((BitVec.ofInt 64 x) &&& (BitVec.ofInt 64 255)).toNat ≤ 255 := by
    rw [BitVec.toNat_and]
    exact Nat.le_trans Nat.and_le_right (by decide)
  rw [hb]
  generalize ((BitVec.ofInt 64 x) &&& (BitVec.ofInt 64 255)).toNat = m at *
  have h1 : IntKind.u64.wrap (m : Int) = m := by simp [IntKind.wrap, IntKind.bits, IntKind.signed]; omega
  rw [h1]
  have h2 : wrap64 (m : Int) = m := by simp [wrap64]; omega
  rw [h2]
  omega
attribute [local go_sem ↓] Go.wp_at_zero Go.wp_at_succ
set_option maxRecDepth 100000 in
set_option maxHeartbeats 4000000 in
theorem next_calls (B : Nat) (a : Option Addr) (len cap A : Nat) (w : World) (hA : A < 1000000) (h : CU B a len cap A w) :
    Calls Tryz.prog 97 #[.pointer (some ⟨B, 0, none⟩)] w fun e w' => (∃ v : Int, e = .returned (.int .i64 v) ∧ 0 ≤ v ∧ v ≤ 255) ∧ CU B a len cap (A + 1) w' ∧ w.grownBy w' (some B) := by
  obtain ⟨t, s, ht, hx⟩ := h
  have HC : Hid (CXd B a len cap t s w) := hx
  have HG : Hid (w.grownBy w (some B)) := gby_refl _ _
  clear hx
  go_enter Tryz.func97, Tryz.ntmps97
  go_upto_region 1 with fail
  go_cut [13] (fun v wc => v = .bool (decide (t < len)) ∧ CXd B a len cap t s wc ∧ w.grownBy wc (some B))
  case first =>
    go_region_held3 (fun w' => w'.cell? ⟨B, 0, none⟩ = some (.slice a len cap) ∧ w'.cell? ⟨B, 1, none⟩ = some (.int .i64 (t : Int)) ∧ w'.cell? ⟨B, 2, none⟩ = some (.int .u64 s)) (first | (with_reducible exact HC.out.c) | (with_reducible exact HC.out.drew.c)) (fail)
    all_goals go_wp2_with fail
    all_goals go_meet
    all_goals first | (with_reducible exact ⟨rfl, HC.out, HG.out⟩) | (with_reducible exact ⟨rfl, HC.out.drew, gby_drew HG.out⟩)
  case rest =>
    obtain ⟨rfl, hx, hg⟩ := hcut
    replace HC : Hid (CXd B a len cap t s wc) := hx
    replace HG : Hid (w.grownBy wc (some B)) := hg
    clear hx hg
    by_cases htl : t < len
    · obtain ⟨b, off, z, rfl, hb, hz, hz0, hz1⟩ := HC.out.row t htl
      have htz : (t : Int) < (len : Int) := by omega
      have HZ : Hid (wc.cell? ⟨b, off + t, none⟩ = some (.int .u8 z)) := hz
      clear hz
      go_upto_region 2 with fail
      go_cut [3] (fun v wd => v = .int .u8 z ∧ CXd B (some ⟨b, off, none⟩) len cap t s wd ∧ w.grownBy wd (some B))
      case first =>
        go_region_held3 (fun w' => w'.cell? ⟨B, 0, none⟩ = some (.slice (some ⟨b, off, none⟩) len cap) ∧ w'.cell? ⟨B, 1, none⟩ = some (.int .i64 (t : Int)) ∧ w'.cell? ⟨b, off + t, none⟩ = some (.int .u8 z)) (first | (with_reducible exact ⟨HC.out.c.1, HC.out.c.2.1, HZ.out⟩) | (with_reducible exact ⟨HC.out.drew.c.1, HC.out.drew.c.2.1, HZ.out⟩) | (exact ⟨HC.out.drew.c.1, HC.out.drew.c.2.1, HZ.out⟩)) (fail)
        all_goals go_wp2_with fail
        all_goals go_meet
        all_goals first | (with_reducible exact ⟨rfl, HC.out, HG.out⟩) | (with_reducible exact ⟨rfl, HC.out.drew, gby_drew HG.out⟩)
      case rest =>
        clear HC HG HZ
        obtain ⟨rfl, hx, hg⟩ := hcut
        obtain ⟨c0, c1, c2⟩ := hx.c
        have cf := hx.fr
        have HC : Hid (CXd B (some ⟨b, off, none⟩) len cap t s wc) := hx
        have HG : Hid (w.grownBy wc (some B)) := hg
        clear hx hg
        go_wp2_with fail
        clear c0 c1 c2 cf
        go_ret
        exact ⟨⟨z, rfl, hz0, hz1⟩, ⟨t + 1, _, by omega, HC.out.set (t + 1) _⟩, gby_trans (gby_trans HG.out (gby_set _ _ _ _)) (gby_set _ _ _ _)⟩
    · have htz : ¬ (t : Int) < (len : Int) := by omega
      obtain ⟨c0, c1, c2⟩ := HC.out.c
      have cf := HC.out.fr
      go_wp2_with fail
      clear c0 c1 c2 cf
      go_ret
      exact ⟨⟨_, rfl, and255 _⟩, ⟨t + 1, _, by omega, HC.out.set' (t + 1) _⟩, gby_trans (gby_trans HG.out (gby_set _ _ _ _)) (gby_set _ _ _ _)⟩
end Go.Proofs.YtdialodjllpgaaaGreatDoor

/-! The draws: pick, whole. -/
namespace Go.Proofs.YtdialodjllpgaaaGreatDoor
open Go.RowKit
attribute [local go_sem ↓] Go.wp_at_zero Go.wp_at_succ

set_option maxRecDepth 100000 in
set_option maxHeartbeats 4000000 in
theorem pick_calls (B : Nat) (a : Option Addr) (len cap A : Nat) (n : Int) (w : World) (hA : A < 900000) (hn1 : 1 < n) (hn2 : n ≤ 100000) (h : CU B a len cap A w) :
    Calls Tryz.prog 68 #[.pointer (some ⟨B, 0, none⟩), .int .i64 n] w fun e w' => (∃ v : Int, e = .returned (.int .i64 v) ∧ 0 ≤ v ∧ v < n) ∧ CU B a len cap (A + 2) w' ∧ w.grownBy w' (some B) := by
  have hne : (n == 0) = false := by simp; omega
  go_enter Tryz.func68, Tryz.ntmps68
  go_wp2_with fail
  refine (next_calls B a len cap A w (by omega) h).mono ?_
  rintro e w1 ⟨⟨v, rfl, v0, v1⟩, hc, hg⟩
  have HC : Hid (CU B a len cap (A + 1) w1) := hc
  have HG : Hid (w.grownBy w1 (some B)) := hg
  clear hc hg h
  by_cases h200 : 200 < n
  · go_wp2_with fail
    refine (next_calls B a len cap (A + 1) w1 (by omega) HC.out).mono ?_
    rintro e w2 ⟨⟨v', rfl, v0', v1'⟩, hc, hg⟩
    have HC2 : Hid (CU B a len cap (A + 2) w2) := hc
    have HG2 : Hid (w.grownBy w2 (some B)) := gby_trans HG.out hg
    clear hc hg HC HG
    go_wp2_with fail
    go_ret
    exact ⟨⟨_, rfl, by first | exact Int.emod_nonneg _ (by omega) | skip, by first | exact Int.emod_lt_of_pos _ (by omega) | skip⟩, HC2.out, HG2.out⟩
  · go_wp2_with fail
    go_ret
    exact ⟨⟨_, rfl, by first | exact Int.emod_nonneg _ (by omega) | skip, by first | exact Int.emod_lt_of_pos _ (by omega) | skip⟩, HC.out.mono (by omega), HG.out⟩

def I64b (v : Int) : Prop := -9223372036854775808 ≤ v ∧ v ≤ 9223372036854775807
end Go.Proofs.YtdialodjllpgaaaGreatDoor
