import Derived.Test.YtdialodjllpgaaaGreatDoorBdC
import Derived.Test.YtdialodjllpgaaaGreatDoorSpU
/-! The program makes closures of nodes: a call's parts. -/
namespace Go.Proofs.YtdialodjllpgaaaGreatDoor
open Go.RowKit
attribute [local go_sem] run_store_float
attribute [local go_sem ↓] Go.wp_at_zero Go.wp_at_succ
attribute [local go_sem] run_store_fn

/-- new since w -/
structure Nw (w u : World) (B : Nat) (A : Array Value) : Prop where
  n : w.heap.size ≤ B
  h : Has u B A
theorem Nw.call {w u u' : World} {B : Nat} {A : Array Value} (h : Nw w u B A) (hb : Below u.heap.size u u') : Nw w u' B A := ⟨h.n, h.h.call hb⟩
theorem Nw.old {w w0 u : World} {B : Nat} {A : Array Value} (h : Nw w u B A) (hb : w0.heap.size ≤ w.heap.size) : Nw w0 u B A := ⟨Nat.le_trans hb h.n, h.h⟩
/-- the parts of a call that prints the variable -/
structure PsA (w : World) (P : PX) (u : World) : Prop where
  o : Nw w u P.o #[.slice none 0 0]
  l1 : Nw w u P.l1 #[onesV P.o]
  l2 : Nw w u P.l2 #[oneV P.v1]
  v1 : Nw w u P.v1 #[varV P.v2]
  v2 : Nw w u P.v2 #[.int .i64 0]
  c : Nw w u P.c (vA prD)
  p1 : Nw w u P.p1 #[litV P.c]
  p2 : Nw w u P.p2 #[listV P.l1 P.l2 P.b1]
  k : Below w.heap.size w u
theorem PsA.call {w u u' : World} {P : PX} (h : PsA w P u) (hb : Below u.heap.size u u') : PsA w P u' := ⟨h.o.call hb, h.l1.call hb, h.l2.call hb, h.v1.call hb, h.v2.call hb, h.c.call hb, h.p1.call hb, h.p2.call hb, below_call h.k hb⟩
theorem PsA.old {w w0 u : World} {P : PX} (h : PsA w P u) (hb : Below w0.heap.size w0 w) : PsA w0 P u := ⟨h.o.old hb.size, h.l1.old hb.size, h.l2.old hb.size, h.v1.old hb.size, h.v2.old hb.size, h.c.old hb.size, h.p1.old hb.size, h.p2.old hb.size, below_call hb h.k⟩

theorem px_mk {e : Ending} {w w' : World} (bb B1 O L1 L2 V1 V2 C : Nat) (h : ∃ p1 p2, e = .returned (partsV p1 p2) ∧ PsA w ⟨bb, .bool false, B1, O, L1, L2, V1, V2, C, p1, p2, 0, 0, 0, 0, 0, 0, #[], 0, 0, 0, 0⟩ w') : ∃ P : PX, e = .returned (partsV P.p1 P.p2) ∧ PsA w P w' := by
  obtain ⟨p1, p2, h1, h2⟩ := h
  exact ⟨_, h1, h2⟩
set_option maxRecDepth 100000 in
set_option maxHeartbeats 16000000 in
theorem callParts_calls (M bb : Nat) (d : FD) (x : FA) (n i j : Nat) (w : World) (h : BB M bb d x w) (hn : n < d.nn) (h2 : (d.nd n).kn = 2) (h0 : (d.nd n).c 0 = (i : Int)) (h1 : (d.nd n).c 1 = (j : Int)) (hcap : 2 ≤ (x.nas n).kc) (hi : i < d.nn) (hik : (d.nd i).k = 28) (hi0 : (d.nd i).n = 0) (hj : j < d.nn) (hjk : (d.nd j).k = 26) (hjr : 0 < (d.nd j).rn) (hjr0 : (d.nd j).r 0 = 0) :
    Calls Tryz.prog 194 #[ptr bb, .int .i64 (n : Int)] w fun e w' => ∃ P : PX, e = .returned (partsV P.p1 P.p2) ∧ PsA w P w' := by
  have HB : Hid (BB M bb d x w) := h
  have hmf := mkFunc'
  have b1 := h.b.cell 1 rfl
  have hbl := h.b.1
  obtain ⟨b, off, e1, hb, c0, c1, c2, c3, c4, c5, c6, c7⟩ := h.node hn
  rw [e1] at b1
  rw [h2] at c7
  obtain ⟨kb, ko, e2, _, hkb, d0⟩ := cells1 (h.n.2 n hn).2 (k := 0) (by omega)
  obtain ⟨_, _, e3, _, _, d1⟩ := cells1 (h.n.2 n hn).2 (k := 1) (by omega)
  rw [e2] at e3
  cases e3
  rw [h0] at d0
  rw [h1] at d1
  rw [e2] at c7
  simp only [Nat.add_zero] at d0
  generalize hkc : (x.nas n).kc = kc at *
  clear h c0 c1 c2 c3 c4 c5 c6 e1 e2 h2 h0 h1
  have HC : Hid (∀ u, Below w.heap.size w u → u.cell? ⟨kb, ko, none⟩ = some (.int .i64 (i : Int)) ∧ u.cell? ⟨kb, ko + 1, none⟩ = some (.int .i64 (j : Int))) := fun u hu => ⟨(hu.cell (p := ⟨kb, ko, none⟩) hkb).trans d0, (hu.cell (p := ⟨kb, ko + 1, none⟩) hkb).trans d1⟩
  go_enter Tryz.func194, Tryz.ntmps194
  go_upto_region 2 with fail
  clear b1 c7 d0 d1 hbl hb
  go_region_held3 (fun u => u.cell? ⟨kb, ko, none⟩ = some (.int .i64 (i : Int)) ∧ u.cell? ⟨kb, ko + 1, none⟩ = some (.int .i64 (j : Int))) (first | (refine HC.out _ ?_; (repeat (first | exact HB2.out.1 | exact HB1.out.1 | exact bl_refl _ | refine bl_alloc ?_ _ | refine bl_drew ?_ | refine bl_set ?_ _ (by have h1 := HB1.out.1.size; have h2 := HB2.out.1.size; have h3 := HB2.out.2.1; omega))); done))
   (first
    | (go_at_call 179; refine (exprLit_calls M bb d x i _ ?_ hi (.inr hik)).mono ?_; (refine HB.out.call ?_; (repeat (first | exact bl_refl _ | refine bl_alloc ?_ _ | refine bl_drew ?_))); rintro e w1 ⟨⟨C, rfl, hO1, hO2⟩, hb1⟩; have HB1 : Hid (Below w.heap.size w w1 ∧ w.heap.size ≤ C ∧ Has w1 C (vA prD)) := (by
        have hx : Below w.heap.size w w1 := (by refine below_call ?_ hb1; (repeat (first | exact bl_refl _ | refine bl_alloc ?_ _ | refine bl_drew ?_)))
        refine ⟨hx, ?_, ?_⟩
        · simp at hO1
          omega
        · unfold litD at hO2
          rw [if_neg (by omega), hi0] at hO2
          exact hO2); (first | (have hx := box00 hb1; have m1 := hx.b.1.1) | (have hx := box0 hb1; have m1 := hx.a.1.1; have m2 := Nat.ne_of_lt m1; have m3 := Nat.ne_of_gt m1) | (have hx := True.intro)); have HO : Hid (_ ≤ C ∧ C < w1.heap.size) := ⟨hO1, hO2.1⟩; clear hb1 hO1 hO2)
    | (go_at_call 176; refine (listVar_calls M bb d x kb (ko + 1) (kc - 1) j _ ?_ hj hjk hjr hjr0 ?_ ?_).mono ?_; (refine HB.out.call ?_; (repeat (first | exact HB1.out.1 | refine bl_alloc ?_ _))); (have h9 := HB1.out.1.size; (try simp); omega); (refine (HC.out _ ?_).2; (repeat (first | exact HB1.out.1 | refine bl_alloc ?_ _))); rintro e w2 ⟨L1, L2, O, V1, V2, B1, rfl, hL⟩; have hb2 := hL.k; have HB2 : Hid (Below w.heap.size w w2 ∧ w1.heap.size ≤ w2.heap.size ∧ w1.heap.size ≤ L1 ∧ w1.heap.size ≤ L2 ∧ w1.heap.size ≤ O ∧ w1.heap.size ≤ V1 ∧ w1.heap.size ≤ V2 ∧ Has w2 C (vA prD) ∧ Has w2 L1 #[onesV O] ∧ Has w2 L2 #[oneV V1] ∧ Has w2 O #[.slice none 0 0] ∧ Has w2 V1 #[varV V2] ∧ Has w2 V2 #[.int .i64 0]) := (by
        have hx : Below w1.heap.size w1 w2 := (by refine below_call ?_ hb2; (repeat (first | exact bl_refl _ | refine bl_alloc ?_ _)))
        obtain ⟨⟨a1, a2⟩, ⟨a3, a4⟩, ⟨a5, a6⟩, ⟨a7, a8⟩, ⟨a9, a10⟩, _⟩ := hL
        (try simp at a1)
        (try simp at a3)
        (try simp at a5)
        (try simp at a7)
        (try simp at a9)
        exact ⟨below_call HB1.out.1 hx, hx.size, by omega, by omega, by omega, by omega, by omega, HB1.out.2.2.call hx, a2, a4, a6, a8, a10⟩); have HV : Hid (_ ≤ L1 ∧ _ ≤ L2 ∧ _ ≤ O ∧ _ ≤ V1 ∧ _ ≤ V2) := ⟨hL.l1.1, hL.l2.1, hL.o.1, hL.v1.1, hL.v2.1⟩; (first | (have hy := Bp.call hx hb2) | (have hy := Bo.next hx hb2) | (have hy := Bo.call hx hb2) | (have hy := box2 hb2) | (have hy := box1 hb2) | (have hy := True.intro)); (first | (have c1 := hy.a.1.cell 0 rfl; have z1 := hy.a.2; have l1 := hy.a.1.1; have c2 := hy.b.1.cell 0 rfl; have z2 := hy.b.2; have l2 := hy.b.1.1; have n1 := Nat.ne_of_lt l1; have n2 := Nat.ne_of_gt l1; have n3 := Nat.ne_of_lt l2; have n4 := Nat.ne_of_gt l2) | (have c1 := hy.a.1.cell 0 rfl; have z1 := hy.a.2; have l1 := hy.a.1.1; have n1 := Nat.ne_of_lt l1; have n2 := Nat.ne_of_gt l1) | skip); clear hb2 hL))
  all_goals
    go_wp2_with fail
    go_ret
    have q2 := HB1.out.1.size
    have q3 := HB1.out.2.1
    obtain ⟨q4, q5, q6, q7, q8, q9, q10, q11, q12, q13, q14, q15, q16⟩ := HB2.out
    have q17 := q4.size
    obtain ⟨q18, q19⟩ := HO.out
    obtain ⟨q20, q21, q22, q23, q24⟩ := HV.out
    try simp at q18
    try simp at q20
    try simp at q21
    try simp at q22
    try simp at q23
    try simp at q24
    refine px_mk bb B1 O L1 L2 V1 V2 C ⟨_, _, rfl, ⟨by show _ ≤ O; omega, ?_⟩, ⟨by show _ ≤ L1; omega, ?_⟩, ⟨by show _ ≤ L2; omega, ?_⟩, ⟨by show _ ≤ V1; omega, ?_⟩, ⟨by show _ ≤ V2; omega, ?_⟩, ⟨by show _ ≤ C; omega, ?_⟩, ⟨?_, ?_⟩, ⟨?_, ?_⟩, ?_⟩
    all_goals (try dsimp only)
    all_goals (try omega)
    all_goals (repeat (first | with_reducible exact q11 | with_reducible exact q12 | with_reducible exact q13 | with_reducible exact q14 | with_reducible exact q15 | with_reducible exact q16 | with_reducible exact q4 | with_reducible exact Has.new _ _ _ | with_reducible exact has_new1 _ _ _ _ | with_reducible exact has_newS _ _ _ _ _ | with_reducible refine Has.alloc ?_ _ | with_reducible refine bl_alloc ?_ _ | (with_reducible refine bl_set ?_ _ (by omega)) | with_reducible exact hy.a | with_reducible exact hy.b | with_reducible exact OwnB.new _ _ _ | with_reducible exact own_new1 _ _ _ _ | with_reducible refine OwnB.alloc ?_ _ | with_reducible refine has_same (x := .nilFunc) ?_ | (with_reducible refine has_other ?_ (by omega)) | (with_reducible refine own_other ?_ (by omega))))
end Go.Proofs.YtdialodjllpgaaaGreatDoor

/-! The program makes closures of nodes: the statement that prints. -/
namespace Go.Proofs.YtdialodjllpgaaaGreatDoor
open Go.RowKit
attribute [local go_sem] run_store_float
attribute [local go_sem ↓] Go.wp_at_zero Go.wp_at_succ
attribute [local go_sem] run_store_fn

/-- a call that prints the variable, as nodes -/
structure PrN (d : FD) (x : FA) (n i j : Nat) : Prop where
  ln : n < d.nn
  k : (d.nd n).k = 34
  kn : (d.nd n).kn = 2
  c0 : (d.nd n).c 0 = (i : Int)
  c1 : (d.nd n).c 1 = (j : Int)
  cap : 2 ≤ (x.nas n).kc
  li : i < d.nn
  ik : (d.nd i).k = 28
  i0 : (d.nd i).n = 0
  lj : j < d.nn
  jk : (d.nd j).k = 26
  jr : 0 < (d.nd j).rn
  jr0 : (d.nd j).r 0 = 0
theorem PsA.re {w u : World} {P : PX} (h : PsA w P u) (bb : Nat) (nd : Value) (a1 a2 d1 s1 s2 s3 : Nat) (nA : Array Value) (line : Int) (k1 ka kc : Nat) : PsA w ⟨bb, nd, P.b1, P.o, P.l1, P.l2, P.v1, P.v2, P.c, P.p1, P.p2, a1, a2, d1, s1, s2, s3, nA, line, k1, ka, kc⟩ u := ⟨h.o, h.l1, h.l2, h.v1, h.v2, h.c, h.p1, h.p2, h.k⟩
structure PsB (w : World) (bb : Nat) (P : PX) (u : World) : Prop where
  a : PsA w P u
  a1 : Nw w u P.a1 #[partsV P.p1 P.p2]
  a2 : Nw w u P.a2 #[ptr bb]
theorem PsB.re {w u : World} {b : Nat} {P : PX} (h : PsB w b P u) (bb : Nat) (nd : Value) (d1 s1 s2 s3 : Nat) (nA : Array Value) (line : Int) (k1 ka kc : Nat) : PsB w b ⟨bb, nd, P.b1, P.o, P.l1, P.l2, P.v1, P.v2, P.c, P.p1, P.p2, P.a1, P.a2, d1, s1, s2, s3, nA, line, k1, ka, kc⟩ u := ⟨h.a.re _ _ _ _ _ _ _ _ _ _ _ _ _, h.a1, h.a2⟩
theorem PsB.call {w u u' : World} {bb : Nat} {P : PX} (h : PsB w bb P u) (hb : Below u.heap.size u u') : PsB w bb P u' := ⟨h.a.call hb, h.a1.call hb, h.a2.call hb⟩
theorem PsB.old {w w0 u : World} {bb : Nat} {P : PX} (h : PsB w bb P u) (hb : Below w0.heap.size w0 w) : PsB w0 bb P u := ⟨h.a.old hb, h.a1.old hb.size, h.a2.old hb.size⟩

set_option maxRecDepth 100000 in
set_option maxHeartbeats 8000000 in
theorem allCall_calls (M bb : Nat) (d : FD) (x : FA) (n i j : Nat) (w : World) (h : BB M bb d x w) (hp : PrN d x n i j) :
    Calls Tryz.prog 169 #[ptr bb, .int .i64 (n : Int)] w fun e w' => ∃ P : PX, e = .returned (allV P.a1 P.a2) ∧ PsB w bb P w' := by
  have HB : Hid (BB M bb d x w) := h
  have HP : Hid (PrN d x n i j) := hp
  have hnn := hp.ln
  have b1 := h.b.cell 1 rfl
  have hbl := h.b.1
  obtain ⟨b, off, e1, hb, c0, c1, c2, c3, c4, c5, c6, c7⟩ := h.node hp.ln
  rw [e1] at b1
  rw [hp.k] at c0
  clear h hp c1 c2 c3 c4 c5 c6 c7
  have hmf := mkFunc'
  go_enter Tryz.func169, Tryz.ntmps169
  go_wp2_with fail
  have hp := HP.out
  refine (callParts_calls M bb d x n i j _ (HB.out.alloc _) hp.ln hp.kn hp.c0 hp.c1 hp.cap hp.li hp.ik hp.i0 hp.lj hp.jk hp.jr hp.jr0).mono ?_
  clear hp
  rintro e w1 ⟨P, rfl, hP⟩
  have HW : Hid (PsA w P w1 ∧ Nw w w1 w.heap.size #[ptr bb]) := ⟨hP.old (below_alloc _ _), ⟨Nat.le_refl _, (Has.new _ _ _).call hP.k⟩⟩
  clear hP b1 hbl c0
  go_wp2_with fail
  go_ret
  exact ⟨{ P with a1 := w1.heap.size, a2 := w.heap.size }, rfl, (HW.out.1.call (below_alloc _ _)).re _ _ _ _ _ _ _ _ _ _ _ _ _, ⟨HW.out.1.k.size, Has.new _ _ _⟩, HW.out.2.call (below_alloc _ _)⟩

theorem Nw.set {w w' u : World} {B C o : Nat} {A : Array Value} {v : Value} (h : Nw w' u B A) (hw : w.heap.size ≤ w'.heap.size) (hC : C < w'.heap.size) : Nw w (u.setCell ⟨C, o, none⟩ v) B A := ⟨Nat.le_trans hw h.n, has_other h.h (by have := h.n; omega)⟩
theorem PsA.set {w w' u : World} {P : PX} {C o : Nat} {v : Value} (h : PsA w' P u) (hw : Below w.heap.size w w') (h1 : w.heap.size ≤ C) (h2 : C < w'.heap.size) : PsA w P (u.setCell ⟨C, o, none⟩ v) :=
  ⟨h.o.set hw.size h2, h.l1.set hw.size h2, h.l2.set hw.size h2, h.v1.set hw.size h2, h.v2.set hw.size h2, h.c.set hw.size h2, h.p1.set hw.size h2, h.p2.set hw.size h2, bl_set (below_call hw h.k) v h1⟩
theorem PsB.set {w w' u : World} {bb : Nat} {P : PX} {C o : Nat} {v : Value} (h : PsB w' bb P u) (hw : Below w.heap.size w w') (h1 : w.heap.size ≤ C) (h2 : C < w'.heap.size) : PsB w bb P (u.setCell ⟨C, o, none⟩ v) := ⟨h.a.set hw h1 h2, h.a1.set hw.size h2, h.a2.set hw.size h2⟩
structure PsC (w : World) (bb : Nat) (P : PX) (u : World) : Prop where
  b : PsB w bb P u
  d1 : Nw w u P.d1 #[allV P.a1 P.a2]
theorem PsC.call {w u u' : World} {bb : Nat} {P : PX} (h : PsC w bb P u) (hb : Below u.heap.size u u') : PsC w bb P u' := ⟨h.b.call hb, h.d1.call hb⟩
theorem PsC.old {w w0 u : World} {bb : Nat} {P : PX} (h : PsC w bb P u) (hb : Below w0.heap.size w0 w) : PsC w0 bb P u := ⟨h.b.old hb, h.d1.old hb.size⟩
theorem PsC.re {w u : World} {b : Nat} {P : PX} (h : PsC w b P u) (bb : Nat) (nd : Value) (s1 s2 s3 : Nat) (nA : Array Value) (line : Int) (k1 ka kc : Nat) : PsC w b ⟨bb, nd, P.b1, P.o, P.l1, P.l2, P.v1, P.v2, P.c, P.p1, P.p2, P.a1, P.a2, P.d1, s1, s2, s3, nA, line, k1, ka, kc⟩ u := ⟨h.b.re _ _ _ _ _ _ _ _ _ _ _, h.d1⟩
theorem pc_mk {e : Ending} {w w' : World} {bb : Nat} {P : PX} (h : ∃ d1, e = .returned (doV d1) ∧ PsC w bb { P with d1 := d1 } w') : ∃ P : PX, e = .returned (doV P.d1) ∧ PsC w bb P w' := by
  obtain ⟨d1, h1, h2⟩ := h
  exact ⟨_, h1, h2⟩
/-- a statement that does it -/
structure DoN (w : World) (q : ND) (y : NA) (n : Nat) : Prop where
  k : q.k = 4
  kn : 0 < q.kn
  c : IntsAt 0 w y.ka q.kn q.c
  c0 : q.c 0 = (n : Int)
set_option maxRecDepth 100000 in
set_option maxHeartbeats 16000000 in
theorem actionDo_calls (M bb : Nat) (d : FD) (x : FA) (q : ND) (y : NA) (n i j : Nat) (w : World) (h : BB M bb d x w) (hd : DoN w q y n) (hp : PrN d x n i j) :
    Calls Tryz.prog 142 #[ptr bb, nodeV q y] w fun e w' => ∃ P : PX, e = .returned (doV P.d1) ∧ PsC w bb P w' := by
  have HB : Hid (BB M bb d x w) := h
  have HP : Hid (PrN d x n i j) := hp
  have hmf := mkFunc'
  obtain ⟨kb, ko, e2, _, hkb, d0⟩ := cells1 hd.c hd.kn
  rw [hd.c0] at d0
  simp only [Nat.add_zero] at d0
  have hkn := hd.kn
  show Calls Tryz.prog 142 #[ptr bb, .agg #[.int .i64 q.k, .int .i64 q.l, .int .i64 q.o, .int .i64 q.n, .float .f64 q.f, .string q.s, .slice y.ra q.rn y.rc, .slice y.ka q.kn y.kc]] w fun e w' => ∃ P : PX, e = .returned (doV P.d1) ∧ PsC w bb P w'
  rw [hd.k, e2]
  clear h hp hd e2
  go_enter Tryz.func142, Tryz.ntmps142
  go_upto_region 7 with fail
  obtain ⟨w0, hw0⟩ : ∃ w0, (w.alloc (.cells #[ptr bb] 109)).alloc (.cells #[.int .i64 4, .int .i64 q.l, .int .i64 q.o, .int .i64 q.n, .float .f64 q.f, .string q.s, .slice y.ra q.rn y.rc, .slice (some ⟨kb, ko, none⟩) q.kn y.kc] 95) = w0 := ⟨_, rfl⟩
  have HW0 : Hid (Below w.heap.size w w0 ∧ w.heap.size + 1 < w0.heap.size) := by rw [← hw0]; exact ⟨below_alloc2 _ _ _, by simp⟩
  have e0 : w0.cell? ⟨w.heap.size, 0, none⟩ = some (ptr bb) := by rw [← hw0]; exact ((Has.new w _ _).alloc _).cell 0 rfl
  have e7 : w0.cell? ⟨w.heap.size + 1, 7, none⟩ = some (.slice (some ⟨kb, ko, none⟩) q.kn y.kc) := by rw [← hw0]; exact (has_new1 w _ _ _).cell 7 rfl
  have e1 : w0.cell? ⟨kb, ko, none⟩ = some (.int .i64 (n : Int)) := (HW0.out.1.cell (p := ⟨kb, ko, none⟩) hkb).trans d0
  rw [hw0]
  have HC : Hid (∀ u, Below w0.heap.size w0 u → u.cell? ⟨w.heap.size, 0, none⟩ = some (ptr bb) ∧ u.cell? ⟨w.heap.size + 1, 7, none⟩ = some (.slice (some ⟨kb, ko, none⟩) q.kn y.kc) ∧ u.cell? ⟨kb, ko, none⟩ = some (.int .i64 (n : Int))) := fun u hu => by
    have h9 := HW0.out.2
    exact ⟨(hu.cell (p := ⟨w.heap.size, 0, none⟩) (by show w.heap.size < w0.heap.size; omega)).trans e0, (hu.cell (p := ⟨w.heap.size + 1, 7, none⟩) h9).trans e7, (hu.cell (p := ⟨kb, ko, none⟩) (by show kb < w0.heap.size; omega)).trans e1⟩
  clear hw0 d0 e0 e1 e7
  go_region_held3 (fun u => u.cell? ⟨w.heap.size, 0, none⟩ = some (ptr bb) ∧ u.cell? ⟨w.heap.size + 1, 7, none⟩ = some (.slice (some ⟨kb, ko, none⟩) q.kn y.kc) ∧ u.cell? ⟨kb, ko, none⟩ = some (.int .i64 (n : Int))) (first | (refine HC.out _ ?_; (repeat (first | exact HB1.out.1.a.k | exact HB1.out.2 | exact bl_refl _ | refine bl_alloc ?_ _ | refine bl_drew ?_ | refine bl_set ?_ _ (by have h1 := HB1.out.2.size; omega))); done))
   (first
    | (go_at_call 169; refine (allCall_calls M bb d x n i j _ ?_ HP.out).mono ?_; (refine (HB.out.call HW0.out.1).call ?_; (repeat (first | exact bl_refl _ | refine bl_alloc ?_ _ | refine bl_drew ?_))); rintro e w1 ⟨P, rfl, hP⟩; have hb1 := hP.a.k; have HB1 : Hid (PsB w0 bb P w1 ∧ Below w0.heap.size w0 w1) := (by
        have hx : PsB w0 bb P w1 := (by refine hP.old ?_; (repeat (first | exact bl_refl _ | refine bl_alloc ?_ _ | refine bl_drew ?_)))
        exact ⟨hx, hx.a.k⟩); (first | (have hy := box0 hb1; have c1 := hy.a.1.cell 0 rfl; have z1 := hy.a.2; have l1 := hy.a.1.1; have HN : Hid (PsB (w0.drew.alloc (.cells #[.nilFunc] 264)) bb P w1 ∧ OwnB w1 w0.heap.size #[.nilFunc]) := ⟨hP, hy.a⟩) | skip); clear hb1 hP))
  all_goals
    go_wp2_with fail
    go_ret
    refine pc_mk (P := P) ⟨_, rfl, ?_⟩
    have q1 := HW0.out
    have q2 := HB1.out.2.size
    first
    | exact ⟨((HB1.out.1.old q1.1).call (below_alloc _ _)).re _ _ _ _ _ _ _ _ _ _ _, ⟨by show w.heap.size ≤ w1.heap.size; omega, Has.new _ _ _⟩⟩
    | exact ⟨((HN.out.1.set ((bl_refl w0).drew.alloc (Nat.le_refl _) _) (Nat.le_refl _) (by simp)).old q1.1).re _ _ _ _ _ _ _ _ _ _ _, ⟨by show w.heap.size ≤ w0.heap.size; omega, has_same HN.out.2⟩⟩
end Go.Proofs.YtdialodjllpgaaaGreatDoor

/-! The program makes closures of nodes: a statement, a block of one. -/
namespace Go.Proofs.YtdialodjllpgaaaGreatDoor
open Go.RowKit
attribute [local go_sem] run_store_float
attribute [local go_sem ↓] Go.wp_at_zero Go.wp_at_succ
attribute [local go_sem] run_store_fn

structure PsD (w : World) (bb : Nat) (A : Array Value) (P : PX) (u : World) : Prop where
  c : PsC w bb P u
  s1 : Nw w u P.s1 #[ptr bb]
  s2 : Nw w u P.s2 A
  s3 : Nw w u P.s3 #[doV P.d1]
set_option maxRecDepth 100000 in
set_option maxHeartbeats 8000000 in
theorem stmtDo_calls (M bb : Nat) (d : FD) (x : FA) (s n i j : Nat) (w : World) (h : BB M bb d x w) (hs : s < d.nn) (hk : (d.nd s).k = 4) (hkn : 0 < (d.nd s).kn) (hc0 : (d.nd s).c 0 = (n : Int)) (hp : PrN d x n i j) :
    Calls Tryz.prog 82 #[ptr bb, .int .i64 (s : Int)] w fun e w' => ∃ P : PX, e = .returned (stV P.s1 P.s2 P.s3) ∧ PsD w bb (nodeC (d.nd s) (x.nas s)) P w' := by
  have HB : Hid (BB M bb d x w) := h
  have HP : Hid (PrN d x n i j) := hp
  have b1 := h.b.cell 1 rfl
  have hbl := h.b.1
  obtain ⟨b, off, e1, hb, c0, c1, c2, c3, c4, c5, c6, c7⟩ := h.node hs
  rw [e1] at b1
  have ha := fun W (hW : Below w.heap.size w W) => actionDo_calls M bb d x (d.nd s) (x.nas s) n i j W (h.call hW) ⟨hk, hkn, RowN.below (h.n.2 s hs).2 hW, hc0⟩ hp
  simp only [nodeV, hk] at ha
  have HA : Hid _ := ha
  have HK : Hid ((d.nd s).k = 4) := hk
  rw [hk] at c0
  clear h hp hk ha hkn hc0
  have hmf := mkFunc'
  go_enter Tryz.func82, Tryz.ntmps82
  go_wp2_with fail
  refine (HA.out _ (below_alloc2 _ _ _)).mono ?_
  rintro e w1 ⟨P, rfl, hP⟩
  have HW : Hid (PsC w bb P w1 ∧ Nw w w1 w.heap.size #[ptr bb] ∧ Nw w w1 (w.heap.size + 1) (nodeC (d.nd s) (x.nas s))) := by
    refine ⟨hP.old (below_alloc2 _ _ _), ⟨Nat.le_refl _, ((Has.new _ _ _).alloc _).call hP.b.a.k⟩, ⟨by omega, ?_⟩⟩
    unfold nodeC
    rw [HK.out]
    exact (has_new1 _ _ _ _).call hP.b.a.k
  clear hP b1 hbl c0 c1 c2 c3 c4 c5 c6 c7 HA
  go_wp2_with fail
  go_ret
  exact ⟨{ P with s1 := w.heap.size, s2 := w.heap.size + 1, s3 := w1.heap.size }, rfl, (HW.out.1.call (below_alloc _ _)).re _ _ _ _ _ _ _ _ _ _, HW.out.2.1.call (below_alloc _ _), HW.out.2.2.call (below_alloc _ _), ⟨HW.out.1.b.a.k.size, Has.new _ _ _⟩⟩

theorem infoActing : (Tryz.prog.info? 108).map (fun i => (i.zero, i.size, i.bytes)) = some (some .nilFunc, 1, 8) := by kernel_rfl
/-- a block of one statement was made -/
structure Bk (w : World) (k1 ka kc : Nat) (v : Value) (u0 u1 u : World) : Prop where
  a : w.heap.size ≤ k1
  b : k1 < u0.heap.size
  g : Gx (fun k => k = k1) u1 u
  h : Has u k1 #[.slice (some ⟨ka, 0, none⟩) 1 kc]
  kg : w.heap.size ≤ ka
  kl : ka < u.heap.size
  kv : u.cell? ⟨ka, 0, none⟩ = some v
  k : Below w.heap.size w u
set_option maxRecDepth 100000 in
set_option maxHeartbeats 16000000 in
theorem blockOne_calls (M bb : Nat) (d : FD) (x : FA) (q : ND) (y : NA) (s : Nat) (w : World) (R : World → Value → World → Prop) (h : BB M bb d x w) (hs : s < d.nn) (hsk : (d.nd s).k ≠ 14) (hkn : q.kn = 1) (hc : IntsAt 0 w y.ka q.kn q.c) (hc0 : q.c 0 = (s : Int))
    (hst : ∀ u, Below w.heap.size w u → Calls Tryz.prog 82 #[ptr bb, .int .i64 (s : Int)] u fun e u' => ∃ f c, e = .returned (.func (.func f) #[] c) ∧ Below u.heap.size u u' ∧ R u (.func (.func f) #[] c) u') :
    Calls Tryz.prog 141 #[ptr bb, nodeV q y] w fun e w' => ∃ v k1 ka kc u0 u1, e = .returned (bkV k1) ∧ Below w.heap.size w u0 ∧ R u0 v u1 ∧ Bk w k1 ka kc v u0 u1 w' := by
  have HB : Hid (BB M bb d x w) := h
  have HST : Hid (∀ u, Below w.heap.size w u → Calls Tryz.prog 82 #[ptr bb, .int .i64 (s : Int)] u fun e u' => ∃ f c, e = .returned (.func (.func f) #[] c) ∧ Below u.heap.size u u' ∧ R u (.func (.func f) #[] c) u') := hst
  have hmf := mkFunc'
  obtain ⟨kb, ko, e2, _, hkb, d0⟩ := cells1 hc (k := 0) (by omega)
  rw [hc0] at d0
  simp only [Nat.add_zero] at d0
  show Calls Tryz.prog 141 #[ptr bb, .agg #[.int .i64 q.k, .int .i64 q.l, .int .i64 q.o, .int .i64 q.n, .float .f64 q.f, .string q.s, .slice y.ra q.rn y.rc, .slice y.ka q.kn y.kc]] w fun e w' => ∃ v k1 ka kc u0 u1, e = .returned (bkV k1) ∧ Below w.heap.size w u0 ∧ R u0 v u1 ∧ Bk w k1 ka kc v u0 u1 w'
  rw [hkn, e2]
  clear h hst hkn hc hc0 e2
  go_enter Tryz.func141, Tryz.ntmps141
  go_wp2_with fail
  obtain ⟨w0, hw0⟩ : ∃ w0, (w.alloc (.cells #[.int .i64 q.k, .int .i64 q.l, .int .i64 q.o, .int .i64 q.n, .float .f64 q.f, .string q.s, .slice y.ra q.rn y.rc, .slice (some ⟨kb, ko, none⟩) 1 y.kc] 95)).alloc (.cells #[.slice none 0 0] 63) = w0 := ⟨_, rfl⟩
  have HW0 : Hid (Below w.heap.size w w0 ∧ OwnB w0 (w.heap.size + 1) #[.slice none 0 0]) := by rw [← hw0]; exact ⟨below_alloc2 _ _ _, own_new1 _ _ _ _⟩
  rw [hw0]
  clear hw0
  obtain ⟨B, hB⟩ : ∃ B, w.heap.size + 1 = B := ⟨_, rfl⟩
  have HBe : Hid (w.heap.size + 1 = B) := hB
  rw [hB] at HW0
  rw [hB]
  clear hB
  go_loopw [6, 12] (fun v i wr => v = .bool false ∧ ((i = .int .i64 0 ∧ wr = w0) ∨ (i = .int .i64 1 ∧ Hid (∃ v ka kc u0 u1, Below w.heap.size w u0 ∧ R u0 v u1 ∧ Bk w B ka kc v u0 u1 wr)))) (fun _ i _ => 1 - (intOf i).toNat)
  case atStart => exact ⟨rfl, .inl ⟨rfl, rfl⟩⟩
  case round =>
    obtain ⟨rfl, hrel⟩ := hrel
    rcases hrel with ⟨rfl, rfl⟩ | ⟨rfl, HF⟩
    · have d0' : wr.cell? ⟨kb, ko, none⟩ = some (.int .i64 (s : Int)) := (HW0.out.1.cell (p := ⟨kb, ko, none⟩) hkb).trans d0
      have b0 := HW0.out.2.1.cell 0 rfl
      have bz := HW0.out.2.2
      have hBl := HW0.out.2.1.1
      clear d0
      obtain ⟨ta, hta⟩ : ∃ ta : Option Addr, Hid (ta = none) := ⟨_, rfl⟩
      obtain ⟨tn, htn⟩ : ∃ tn : Nat, Hid (tn = 0) := ⟨_, rfl⟩
      obtain ⟨tc, htc⟩ : ∃ tc : Nat, Hid (tc = 0) := ⟨_, rfl⟩
      have htv : Hid (Value.slice none 0 0 = .slice ta tn tc) := by rw [hta.out, htn.out, htc.out]; exact rfl
      rw [htv.out] at b0
      go_upto_region 6 with fail
      obtain ⟨i0, hi0, hy0, hy1, hy2⟩ := info_parts infoActing
      have heg := enters_of Tryz.func82 (by kernel_rfl) rfl
      go_region_law (first
        | (refine step_call2 (by rfl) 82 _ _ _ _ (by rfl) (ptr bb) (.int .i64 (s : Int)) (by rfl) (by rfl) heg _ (HST.out wr.drew HW0.out.1.drew) ?_; rintro e w1 ⟨f, c, rfl, hb1, hR⟩; refine ⟨_, rfl, ?_⟩; obtain ⟨v', w7, happ, hown, hgrow, _, hat⟩ := run_append_own_at (P := Tryz.prog) (w1.alloc (.cells #[.func (.func f) #[] c] 108)) B 63 63 108 i0 _ 1 8 Tryz.underlying63 hi0 hy0 hy1 hy2 rfl (by decide) (.slice none 0 0) 0 [] (World.ownsRow_nil _ _ _ _) ⟨w1.heap.size, 0, none⟩ 1 1 [.func (.func f) #[] c] rfl (cell_one_new _ _ _) (by simp [Value.oneCell']) (by unfold maxLen; omega) (by omega) (by have h8 := hb1.size; simp at h8 ⊢; omega); obtain ⟨g, cap, rfl, hgb, hgl, hgv⟩ : ∃ g cap, v' = .slice (some ⟨g, 0, none⟩) 1 cap ∧ w1.heap.size < g ∧ g < w7.heap.size ∧ w7.cell? ⟨g, 0, none⟩ = some (.func (.func f) #[] c) := (by
              rcases hown.2 with ⟨_, d⟩ | ⟨g, cap, cur, e, hb, hg, h1, h2, h3, h4⟩
              · omega
              · refine ⟨g, cap, e, ?_, (Array.getElem?_eq_some_iff.1 hg).1, ?_⟩
                · rw [e] at hat
                  rcases hat with e | e
                  · cases e
                  · have := Option.some.inj e; simp at this; omega
                · subst e
                  have := hown.cells (g := g) rfl 0 (.func (.func f) #[] c) rfl
                  simpa [Addr.add] using this); have hk7 : ∀ k, k < w1.heap.size → w7.heap[k]? = w1.heap[k]? := (fun k hk => (hgrow.block k (by simp; omega) (by simp [Value.ownBlock])).trans (Below.block (below_alloc _ _) _ hk)); have hs7 : w1.heap.size ≤ w7.heap.size := (by have h8 := hgrow.size; simp at h8; omega); have hBw1 : OwnB w1 B #[.slice none 0 0] := HW0.out.2.drew.call hb1; have hBw7 : OwnB w7 B #[.slice none 0 0] := hBw1.block hs7 (hk7 _ hBw1.1.1); have HN : Hid (∃ v ka kc u0 u1, Below w.heap.size w u0 ∧ R u0 v u1 ∧ Bk w B ka kc v u0 u1 (w7.setCell ⟨B, 0, none⟩ (.slice (some ⟨g, 0, none⟩) 1 cap))) := (by
              have h9 := HBe.out
              have h10 := hb1.size
              have h11 : B < wr.heap.size := hBl
              have h12 : wr.heap.size ≤ w1.heap.size := h10
              refine ⟨_, g, cap, wr.drew, w1, HW0.out.1.drew, hR, ⟨by omega, h11, ?_, has_same hBw7, by have := HW0.out.1.size; omega, by simpa using hgl, ?_, ?_⟩⟩
              · have hg7 : Gx (fun k => k = B) w1 w7 := (Gx.below _ (below_alloc _ _)).trans (Gx.grown hgrow) (fun k _ e => by cases e)
                exact hg7.trans (Gx.set w7 B 0 _) (fun _ _ e => e)
              · exact (World.cell?_setCell_far w7 ⟨B, 0, none⟩ ⟨g, 0, none⟩ _ (by show B ≠ g; omega)).trans hgv
              · exact bl_set (((below_call HW0.out.1.drew hb1).alloc (by have := HW0.out.1.size; omega) _).grown hgrow (by have := HW0.out.1.size; simp; omega) (fun k e => by cases e)) _ (by omega)); rw [htv.out] at happ; have b01 := hBw1.1.cell 0 rfl; rw [htv.out] at b01; have hl01 := hBw1.1.1; have b0' := (hBw1.alloc (.cells #[.func (.func f) #[] c] 108)).1.cell 0 rfl; rw [htv.out] at b0'; have b7 := hBw7.1.cell 0 rfl; have z7 := hBw7.2; have hl7 := hBw7.1.1; clear hown hgrow hat hR hb1 hBw1 hBw7 hgb hgl hgv hk7 hs7)
        | (refine step_app (by rfl) _ _ _ _ (by rfl) (.slice ta tn tc) (.slice (some ⟨w1.heap.size, 0, none⟩) 1 1) _ _ (by rfl) (by rfl) happ ?_))
      all_goals
        obtain ⟨w8, hw8⟩ : ∃ w8, w7.setCell ⟨B, 0, none⟩ (.slice (some ⟨g, 0, none⟩) 1 cap) = w8 := ⟨_, rfl⟩
        rw [hw8] at HN
        rw [hw8]
        have HBW : Hid (BB M bb d x w8) := by obtain ⟨v, ka, kc, u0, u1, h1, h2, h3⟩ := HN.out; exact HB.out.call h3.k
        clear hw8 happ b01 hl01 b0' b7 z7 hl7 b0 bz hBl d0' hi0 hy0 hy1 hy2 heg
        have b1 := HBW.out.b.cell 1 rfl
        have hbl := HBW.out.b.1
        obtain ⟨b, off, e1, hb, c0, c1, c2, c3, c4, c5, c6, c7⟩ := HBW.out.node hs
        rw [e1] at b1
        clear c1 c2 c3 c4 c5 c6 c7
        go_wp2_with fail
        go_roundw
        case rel => exact ⟨by simp [hsk], .inr ⟨rfl, HN⟩⟩
        case measure => simp [intOf]
    · go_wp2_with fail
      go_ret
      obtain ⟨v, ka, kc, u0, u1, h1, h2, h3⟩ := HF.out
      exact ⟨v, B, ka, kc, u0, u1, rfl, h1, h2, h3⟩
end Go.Proofs.YtdialodjllpgaaaGreatDoor

/-! The program makes closures of nodes: the block that prints. -/
namespace Go.Proofs.YtdialodjllpgaaaGreatDoor
open Go.RowKit
attribute [local go_sem] run_store_float
attribute [local go_sem ↓] Go.wp_at_zero Go.wp_at_succ
attribute [local go_sem] run_store_fn

set_option maxRecDepth 100000 in
set_option maxHeartbeats 8000000 in
theorem stmtBlock_calls (M bb : Nat) (d : FD) (x : FA) (n : Nat) (w : World) (Q : World → Nat → World → Prop) (h : BB M bb d x w) (hn : n < d.nn) (hk : (d.nd n).k = 1)
    (hbk : ∀ W, Below w.heap.size w W → Calls Tryz.prog 141 #[ptr bb, nodeV (d.nd n) (x.nas n)] W fun e w' => ∃ k1, e = .returned (bkV k1) ∧ Q W k1 w') :
    Calls Tryz.prog 82 #[ptr bb, .int .i64 (n : Int)] w fun e w' => ∃ W k1, e = .returned (bkV k1) ∧ Below w.heap.size w W ∧ Q W k1 w' := by
  have b1 := h.b.cell 1 rfl
  have hbl := h.b.1
  obtain ⟨b, off, e1, hb, c0, c1, c2, c3, c4, c5, c6, c7⟩ := h.node hn
  rw [e1] at b1
  simp only [nodeV, hk] at hbk
  have HA : Hid _ := hbk
  rw [hk] at c0
  clear h hk hbk
  go_enter Tryz.func82, Tryz.ntmps82
  go_wp2_with fail
  refine (HA.out _ (below_alloc2 _ _ _)).mono ?_
  rintro e w1 ⟨k1, rfl, hP⟩
  have HQ : Hid _ := hP
  clear hP b1 hbl c0 c1 c2 c3 c4 c5 c6 c7 HA
  go_wp2_with fail
  go_ret
  exact ⟨_, k1, rfl, below_alloc2 _ _ _, HQ.out⟩

/-- a block that prints the variable, as closures -/
structure PsN (w : World) (bb : Nat) (A : Array Value) (P : PX) (u : World) : Prop where
  o : Nw w u P.o #[.slice none 0 0]
  l1 : Nw w u P.l1 #[onesV P.o]
  l2 : Nw w u P.l2 #[oneV P.v1]
  v1 : Nw w u P.v1 #[varV P.v2]
  v2 : Nw w u P.v2 #[.int .i64 0]
  c : Nw w u P.c (vA prD)
  p1 : Nw w u P.p1 #[litV P.c]
  p2 : Nw w u P.p2 #[listV P.l1 P.l2 P.b1]
  a1 : Nw w u P.a1 #[partsV P.p1 P.p2]
  a2 : Nw w u P.a2 #[ptr bb]
  d1 : Nw w u P.d1 #[allV P.a1 P.a2]
  s1 : Nw w u P.s1 #[ptr bb]
  s2 : Nw w u P.s2 A
  s3 : Nw w u P.s3 #[doV P.d1]
  k1 : Nw w u P.k1 #[.slice (some ⟨P.ka, 0, none⟩) 1 P.kc]
  ka : w.heap.size ≤ P.ka
  kl : P.ka < u.heap.size
  kv : u.cell? ⟨P.ka, 0, none⟩ = some (stV P.s1 P.s2 P.s3)
theorem Nw.gx {w b u u' : World} {B C : Nat} {A : Array Value} (h : Nw b u B A) (hw : w.heap.size ≤ b.heap.size) (hC : C < b.heap.size) (g : Gx (fun k => k = C) u u') : Nw w u' B A := ⟨Nat.le_trans hw h.n, g.has h.h (fun e => by have := h.n; omega)⟩
theorem PsN.call {w u u' : World} {bb : Nat} {A : Array Value} {P : PX} (h : PsN w bb A P u) (hb : Below u.heap.size u u') : PsN w bb A P u' := ⟨h.o.call hb, h.l1.call hb, h.l2.call hb, h.v1.call hb, h.v2.call hb, h.c.call hb, h.p1.call hb, h.p2.call hb, h.a1.call hb, h.a2.call hb, h.d1.call hb, h.s1.call hb, h.s2.call hb, h.s3.call hb, h.k1.call hb, h.ka, Nat.lt_of_lt_of_le h.kl hb.size, (hb.cell (p := ⟨P.ka, 0, none⟩) h.kl).trans h.kv⟩
theorem PsN.old {w w0 u : World} {bb : Nat} {A : Array Value} {P : PX} (h : PsN w bb A P u) (hb : w0.heap.size ≤ w.heap.size) : PsN w0 bb A P u := ⟨h.o.old hb, h.l1.old hb, h.l2.old hb, h.v1.old hb, h.v2.old hb, h.c.old hb, h.p1.old hb, h.p2.old hb, h.a1.old hb, h.a2.old hb, h.d1.old hb, h.s1.old hb, h.s2.old hb, h.s3.old hb, h.k1.old hb, Nat.le_trans hb h.ka, h.kl, h.kv⟩
theorem PsN.gx {w u u' : World} {bb C : Nat} {A : Array Value} {P : PX} (h : PsN w bb A P u) (hC : C < w.heap.size) (g : Gx (fun k => k = C) u u') : PsN w bb A P u' := ⟨h.o.gx (Nat.le_refl _) hC g, h.l1.gx (Nat.le_refl _) hC g, h.l2.gx (Nat.le_refl _) hC g, h.v1.gx (Nat.le_refl _) hC g, h.v2.gx (Nat.le_refl _) hC g, h.c.gx (Nat.le_refl _) hC g, h.p1.gx (Nat.le_refl _) hC g, h.p2.gx (Nat.le_refl _) hC g, h.a1.gx (Nat.le_refl _) hC g, h.a2.gx (Nat.le_refl _) hC g, h.d1.gx (Nat.le_refl _) hC g, h.s1.gx (Nat.le_refl _) hC g, h.s2.gx (Nat.le_refl _) hC g, h.s3.gx (Nat.le_refl _) hC g, h.k1.gx (Nat.le_refl _) hC g, h.ka, Nat.lt_of_lt_of_le h.kl g.size, (World.cell?_of_block (a := ⟨P.ka, 0, none⟩) (g.block P.ka h.kl (fun e => by have := h.ka; omega))).trans h.kv⟩
theorem PsN.alloc {w u : World} {bb : Nat} {A : Array Value} {P : PX} (h : PsN w bb A P u) (o : Obj) : PsN w bb A P (u.alloc o) := h.call (below_alloc _ _)
theorem PsN.set {w u : World} {bb C o : Nat} {A : Array Value} {P : PX} {v : Value} (h : PsN w bb A P u) (hC : C < w.heap.size) : PsN w bb A P (u.setCell ⟨C, o, none⟩ v) := h.gx hC (Gx.set u C o v)
theorem PsN.of {w u0 u1 u : World} {bb : Nat} {A : Array Value} {P : PX} {k1 ka kc : Nat} (h : PsD u0 bb A P u1) (b : Bk w k1 ka kc (stV P.s1 P.s2 P.s3) u0 u1 u) (hw : w.heap.size ≤ u0.heap.size) : PsN w bb A { P with k1 := k1, ka := ka, kc := kc } u :=
  ⟨h.c.b.a.o.gx hw b.b b.g, h.c.b.a.l1.gx hw b.b b.g, h.c.b.a.l2.gx hw b.b b.g, h.c.b.a.v1.gx hw b.b b.g, h.c.b.a.v2.gx hw b.b b.g, h.c.b.a.c.gx hw b.b b.g, h.c.b.a.p1.gx hw b.b b.g, h.c.b.a.p2.gx hw b.b b.g, h.c.b.a1.gx hw b.b b.g, h.c.b.a2.gx hw b.b b.g, h.c.d1.gx hw b.b b.g, h.s1.gx hw b.b b.g, h.s2.gx hw b.b b.g, h.s3.gx hw b.b b.g, ⟨b.a, b.h⟩, b.kg, b.kl, b.kv⟩

/-- a block whose one statement prints the variable, as nodes -/
structure BkN (d : FD) (x : FA) (t s n i j : Nat) : Prop where
  lt : t < d.nn
  tk : (d.nd t).k = 1
  tn : (d.nd t).kn = 1
  t0 : (d.nd t).c 0 = (s : Int)
  ls : s < d.nn
  sk : (d.nd s).k = 4
  sn : 0 < (d.nd s).kn
  s0 : (d.nd s).c 0 = (n : Int)
  p : PrN d x n i j
theorem stmtPrints_calls (M bb : Nat) (d : FD) (x : FA) (t s n i j : Nat) (w : World) (h : BB M bb d x w) (hp : BkN d x t s n i j) :
    Calls Tryz.prog 82 #[ptr bb, .int .i64 (t : Int)] w fun e w' => ∃ P : PX, e = .returned (bkV P.k1) ∧ PsN w bb (nodeC (d.nd s) (x.nas s)) P w' ∧ Below w.heap.size w w' := by
  refine (stmtBlock_calls M bb d x t w (fun W k1 u => ∃ P : PX, P.k1 = k1 ∧ PsN W bb (nodeC (d.nd s) (x.nas s)) P u ∧ Below W.heap.size W u) h hp.lt hp.tk ?_).mono ?_
  · intro W hW
    refine (blockOne_calls M bb d x (d.nd t) (x.nas t) s W (fun u v u' => ∃ P : PX, v = stV P.s1 P.s2 P.s3 ∧ PsD u bb (nodeC (d.nd s) (x.nas s)) P u') (h.call hW) hp.ls (by rw [hp.sk]; decide) hp.tn (RowN.below (h.n.2 t hp.lt).2 hW) hp.t0 ?_).mono ?_
    · intro u hu
      refine (stmtDo_calls M bb d x s n i j u ((h.call hW).call hu) hp.ls hp.sk hp.sn hp.s0 hp.p).mono ?_
      rintro e u' ⟨P, rfl, hP⟩
      exact ⟨_, _, rfl, hP.c.b.a.k, P, rfl, hP⟩
    · rintro e u' ⟨v, k1, ka, kc, u0, u1, rfl, hb0, ⟨P, rfl, hP⟩, hB⟩
      exact ⟨k1, rfl, { P with k1 := k1, ka := ka, kc := kc }, rfl, PsN.of hP hB hb0.size, hB.k⟩
  · rintro e u' ⟨W, k1, rfl, hW, P, rfl, hP, hb⟩
    exact ⟨P, rfl, hP.old hW.size, below_call hW hb⟩
end Go.Proofs.YtdialodjllpgaaaGreatDoor

/-! Tables: impl's get. -/
namespace Go.Proofs.YtdialodjllpgaaaGreatDoor
open Go.RowKit
attribute [local go_sem] run_store_float
attribute [local go_sem ↓] Go.wp_at_zero Go.wp_at_succ

/-- what the loads of get read, and what it stands on -/
structure GetS (w : World) (X : Nat) (a : Option Addr) (n cap B : Nat) (t : Int) (q : Nat → PD) (y : VD) (w' : World) : Prop where
  x : XBox w' X a n cap B t q
  lt : w.heap.size < w'.heap.size
  k : ∀ j, w'.cell? ⟨w.heap.size, j, none⟩ = (#[.int .i64 y.k, .int .i64 y.n, .float .f64 y.f, .string y.s, .int .i64 y.r] : Array Value)[j]?
  r : w.heap.size + 1 < w'.heap.size
  rc : ∀ j, j < 5 → ∃ v, w'.cell? ⟨w.heap.size + 1, j, none⟩ = some v
  rf : ∀ j, w'.frozen? ⟨w.heap.size + 1, j, none⟩ = false
  b : Below w.heap.size w w'
theorem GetS.call {w : World} {X : Nat} {a : Option Addr} {n cap B : Nat} {t : Int} {q : Nat → PD} {y : VD} {u v : World} (h : GetS w X a n cap B t q y u) (hb : Below u.heap.size u v) : GetS w X a n cap B t q y v :=
  ⟨h.x.call hb, Nat.lt_of_lt_of_le h.lt hb.size, fun j => (hb.cell (p := ⟨w.heap.size, j, none⟩) h.lt).trans (h.k j), Nat.lt_of_lt_of_le h.r hb.size, fun j hj => by
    obtain ⟨v, hv⟩ := h.rc j hj
    exact ⟨v, (hb.cell (p := ⟨w.heap.size + 1, j, none⟩) h.r).trans hv⟩, fun j => (hb.frozen (p := ⟨w.heap.size + 1, j, none⟩) h.r).trans (h.rf j), below_call h.b hb⟩
theorem GetS.cells {w : World} {X : Nat} {a : Option Addr} {n cap B : Nat} {t : Int} {q : Nat → PD} {y : VD} {w' : World} (h : GetS w X a n cap B t q y w') : w'.cell? ⟨X, 0, none⟩ = some (.slice a n cap) ∧ w'.cell? ⟨X, 1, none⟩ = some (.map (some B)) ∧ w'.cell? ⟨w.heap.size, 0, none⟩ = some (.int .i64 y.k) ∧ w'.cell? ⟨w.heap.size, 1, none⟩ = some (.int .i64 y.n) ∧ w'.cell? ⟨w.heap.size, 2, none⟩ = some (.float .f64 y.f) ∧ w'.cell? ⟨w.heap.size, 3, none⟩ = some (.string y.s) ∧ w'.cell? ⟨w.heap.size, 4, none⟩ = some (.int .i64 y.r) :=
  ⟨h.x.c0, h.x.c1, h.k 0, h.k 1, h.k 2, h.k 3, h.k 4⟩
theorem GetS.new {w : World} {X : Nat} {a : Option Addr} {n cap B : Nat} {t : Int} {q : Nat → PD} (y : VD) (h : XBox w X a n cap B t q) : GetS w X a n cap B t q y ((w.alloc (.cells #[.int .i64 y.k, .int .i64 y.n, .float .f64 y.f, .string y.s, .int .i64 y.r] 56)).alloc (.cells #[.int .i64 0, .int .i64 0, .float .f64 0, .string ⟨#[]⟩, .int .i64 0] 56)) :=
  ⟨(h.alloc _).alloc _, by simp; omega, fun j => by rw [World.cell?_alloc_lt _ _ _ (by simp)]; exact World.cell?_alloc_new _ _ _ j, by simp, fun j hj => by
    have := World.cell?_alloc_new (w.alloc (.cells #[.int .i64 y.k, .int .i64 y.n, .float .f64 y.f, .string y.s, .int .i64 y.r] 56)) #[.int .i64 0, .int .i64 0, .float .f64 0, .string ⟨#[]⟩, .int .i64 0] 56 j
    simp only [World.size_alloc] at this
    rw [this]
    rcases (show j = 0 ∨ j = 1 ∨ j = 2 ∨ j = 3 ∨ j = 4 by omega) with rfl | rfl | rfl | rfl | rfl <;> exact ⟨_, rfl⟩, fun j => by simp, below_alloc2 _ _ _⟩

abbrev gw (w : World) (y : VD) : World := ((w.alloc (.cells #[.int .i64 y.k, .int .i64 y.n, .float .f64 y.f, .string y.s, .int .i64 y.r] 56)).alloc (.cells #[.int .i64 0, .int .i64 0, .float .f64 0, .string ⟨#[]⟩, .int .i64 0] 56))
theorem st11 {B blk : Nat} {a w : World} (h : Below B a w) (hp : B ≤ blk) (v0 v1 v2 v3 v4 v5 v6 v7 v8 v9 v10 : Value) :
    Below B a (((((((((((w.setCell ⟨blk, 0, none⟩ v0).setCell ⟨blk, 1, none⟩ v1).setCell ⟨blk, 2, none⟩ v2).setCell ⟨blk, 3, none⟩ v3).setCell ⟨blk, 4, none⟩ v4).setCell ⟨blk, 5, none⟩ v5).setCell ⟨blk, 6, none⟩ v6).setCell ⟨blk, 7, none⟩ v7).setCell ⟨blk, 8, none⟩ v8).setCell ⟨blk, 9, none⟩ v9).setCell ⟨blk, 10, none⟩ v10) :=
  st1 (st1 (st1 (st1 (st1 (st1 (st1 (st1 (st1 (st1 (st1 h hp v0) hp v1) hp v2) hp v3) hp v4) hp v5) hp v6) hp v7) hp v8) hp v9) hp v10

set_option maxRecDepth 100000 in
set_option maxHeartbeats 8000000 in
theorem get_calls (X : Nat) (a : Option Addr) (n cap B : Nat) (t : Int) (q : Nat → PD) (y : VD) (w : World) (hok : TabOk n t q) (hX : XBox w X a n cap B t q) :
    Calls Tryz.prog 151 #[.pointer (some ⟨X, 0, none⟩), y.v] w fun e w' => e = .returned (gt q (mk y) n).val.v ∧ Below w.heap.size w w' := by
  have hS : GetS w X a n cap B t q y ((w.alloc (.cells #[.int .i64 y.k, .int .i64 y.n, .float .f64 y.f, .string y.s, .int .i64 y.r] 56)).alloc (.cells #[.int .i64 0, .int .i64 0, .float .f64 0, .string ⟨#[]⟩, .int .i64 0] 56)) := GetS.new y hX
  have hL : Hid (∀ w a B, Tab w a n q → MapIs w B (places q n) → Calls Tryz.prog 183 #[.slice a n cap, .map (some B), mkV (mk y)] w fun e w' => e = .returned (.tuple #[pOf (gt q (mk y) n), .bool (fnd q (mk y) n).isSome]) ∧ Below w.heap.size w w') := fun w a B h1 h2 => lookup_calls a n cap B t q (mk y) w hok h1 h2
  generalize gt q (mk y) n = p at hL ⊢
  generalize (fnd q (mk y) n).isSome = ob at hL
  have hM : Hid (∀ w, Calls Tryz.prog 184 #[y.v] w fun e w' => e = .returned (mkV (mk y)) ∧ Below w.heap.size w w') := fun w => markOf_calls y w
  generalize mk y = m at hL hM
  clear hok hX
  have HS : Hid (GetS w X a n cap B t q y (gw w y)) := hS
  have Hb : Hid (Below (gw w y).heap.size (gw w y) (gw w y)) := Below.refl _ _
  clear hS
  go_enter Tryz.func151, Tryz.ntmps151
  go_wp2_with fail
  go_region_held3 (fun w' => w'.cell? ⟨X, 0, none⟩ = some (.slice a n cap) ∧ w'.cell? ⟨X, 1, none⟩ = some (.map (some B)) ∧ w'.cell? ⟨w.heap.size, 0, none⟩ = some (.int .i64 y.k) ∧ w'.cell? ⟨w.heap.size, 1, none⟩ = some (.int .i64 y.n) ∧ w'.cell? ⟨w.heap.size, 2, none⟩ = some (.float .f64 y.f) ∧ w'.cell? ⟨w.heap.size, 3, none⟩ = some (.string y.s) ∧ w'.cell? ⟨w.heap.size, 4, none⟩ = some (.int .i64 y.r)) (first | (with_reducible exact (HS.out.call Hb.out).cells) | (with_reducible exact (HS.out.call Hb.out.drew).cells) | (with_reducible exact (HS.out.call (below_a Hb.out _)).cells) | (with_reducible exact (HS.out.call (below_a Hb.out _).drew).cells) | (with_reducible exact (HS.out.call (below_a Hb.out.drew _)).cells) | (with_reducible exact (HS.out.call (st11 Hb.out (by first | exact Nat.le_refl _ | (simp; omega) | simp) _ _ _ _ _ _ _ _ _ _ _)).cells) | (with_reducible exact (HS.out.call (st11 Hb.out (by first | exact Nat.le_refl _ | (simp; omega) | simp) _ _ _ _ _ _ _ _ _ _ _).drew).cells)) (first | (go_at_call 184; refine (hM.out _).mono ?_; rintro e w2 ⟨rfl, hb2⟩; obtain ⟨hc2, hf2⟩ := bcell hb2; have hz2 := hb2.size; (try simp at hz2); (try have hy2 := Nat.lt_of_succ_le hz2); replace Hb : Hid (Below (gw w y).heap.size (gw w y) w2) := (by first | exact below_call Hb.out hb2 | exact below_call Hb.out.drew hb2 | exact below_call (below_a Hb.out _) hb2 | exact below_call (below_a Hb.out _).drew hb2 | exact below_call (below_a Hb.out.drew _) hb2); clear hb2) | (go_at_call 183; refine (hL.out _ a B (by first | exact (HS.out.call Hb.out).x.tab | exact (HS.out.call Hb.out.drew).x.tab | exact (HS.out.call (below_a Hb.out _)).x.tab | exact (HS.out.call (below_a Hb.out _).drew).x.tab | exact (HS.out.call (below_a Hb.out.drew _)).x.tab) (by first | exact (HS.out.call Hb.out).x.map | exact (HS.out.call Hb.out.drew).x.map | exact (HS.out.call (below_a Hb.out _)).x.map | exact (HS.out.call (below_a Hb.out _).drew).x.map | exact (HS.out.call (below_a Hb.out.drew _)).x.map)).mono ?_; rintro e w3 ⟨rfl, hb3⟩; obtain ⟨hc3, hf3⟩ := bcell hb3; have hz3 := hb3.size; (try simp at hz3); (try have hy3 := Nat.lt_of_succ_le hz3); replace Hb : Hid (Below (gw w y).heap.size (gw w y) w3) := (by first | exact below_call Hb.out hb3 | exact below_call Hb.out.drew hb3 | exact below_call (below_a Hb.out _) hb3 | exact below_call (below_a Hb.out _).drew hb3 | exact below_call (below_a Hb.out.drew _) hb3); clear hb3))
  all_goals have G := HS.out.call Hb.out
  all_goals obtain ⟨v0, r0⟩ := G.rc 0 (by omega)
  all_goals obtain ⟨v1, r1⟩ := G.rc 1 (by omega)
  all_goals obtain ⟨v2, r2⟩ := G.rc 2 (by omega)
  all_goals obtain ⟨v3, r3⟩ := G.rc 3 (by omega)
  all_goals obtain ⟨v4, r4⟩ := G.rc 4 (by omega)
  all_goals have rf := G.rf
  all_goals have rr := G.r
  all_goals have GB : Hid (Below w.heap.size w w3) := G.b
  all_goals clear G HS Hb
  all_goals try have n1 : w.heap.size + 1 ≠ w2.heap.size := by omega
  all_goals try have n2 : w2.heap.size ≠ w.heap.size + 1 := by omega
  all_goals try have n3 : w.heap.size + 1 ≠ w3.heap.size := by omega
  all_goals try have n4 : w3.heap.size ≠ w.heap.size + 1 := by omega
  all_goals have p1 : w.heap.size ≤ w.heap.size + 1 := Nat.le_add_right _ _
  all_goals go_wp2_with fail
  · exact bodyPost_ret (v := p.val.v) (by simp [results, Tryz.results151, go_sem, r0, r1, r2, r3, r4, rr]) rfl ⟨rfl, below_a (set5 GB.out p1 _ _ _ _ _) _⟩
  · exact bodyPost_ret (v := p.val.v) (by simp [results, Tryz.results151, go_sem, r0, r1, r2, r3, r4]) rfl ⟨rfl, set5 (st11 GB.out (by omega) _ _ _ _ _ _ _ _ _ _ _) p1 _ _ _ _ _⟩
  · exact bodyPost_ret (v := p.val.v) (by simp [results, Tryz.results151, go_sem, r0, r1, r2, r3, r4]) rfl ⟨rfl, set5 (st11 GB.out (by omega) _ _ _ _ _ _ _ _ _ _ _) p1 _ _ _ _ _⟩
end Go.Proofs.YtdialodjllpgaaaGreatDoor
