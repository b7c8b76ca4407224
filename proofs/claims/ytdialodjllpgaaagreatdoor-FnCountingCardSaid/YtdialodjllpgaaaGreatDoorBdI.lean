import Derived.Test.YtdialodjllpgaaaGreatDoorBdE
import Derived.Test.YtdialodjllpgaaaGreatDoorCnM
import Derived.Test.YtdialodjllpgaaaGreatDoorBdC
/-! The program makes closures of nodes: the counted loop. -/
namespace Go.Proofs.YtdialodjllpgaaaGreatDoor
open Go.RowKit
attribute [local go_sem] run_store_float
attribute [local go_sem ↓] Go.wp_at_zero Go.wp_at_succ
attribute [local go_sem] run_store_fn

/-- a counted loop, as nodes -/
structure CtN (d : FD) (x : FA) (q : ND) (y : NA) (w : World) (t s n i j : Nat) : Prop where
  k : q.k = 7
  kn : q.kn = 4
  cap : 4 ≤ y.kc
  c : IntsAt 0 w y.ka q.kn q.c
  cj : ∀ j, j < 3 → q.c j = (j : Int) ∧ j < d.nn ∧ (d.nd j).k = 23
  c3 : q.c 3 = (t : Int)
  b : BkN d x t s n i j
theorem RowN.gx {w u u' : World} {K n : Nat} {a : Option Addr} {q : Nat → Array Value} {C : Nat} (h : RowN K w.heap.size u a n q) (hC : C < w.heap.size) (g : Gx (fun k => k = C) u u') : RowN K w.heap.size u' a n q := fun h0 => by
  obtain ⟨b, off, e, h1, h2, h3⟩ := h h0
  exact ⟨b, off, e, h1, Nat.lt_of_lt_of_le h2 g.size, fun i hi j hj => (World.cell?_of_block (a := ⟨b, off + i * K + j, none⟩) (g.block b h2 (fun c => by omega))).trans (h3 i hi j hj)⟩
/-- the three numbers, as closures -/
structure OnN (w : World) (d : FD) (o3 : Nat) (oa : Option Addr) (oc : Nat) (Bs : Nat → Nat) (u : World) : Prop where
  o3 : Nw w u o3 #[.slice oa 3 oc]
  row : RowN 1 w.heap.size u oa 3 (fun j => #[litV (Bs j)])
  bs : ∀ j, j < 3 → Nw w u (Bs j) (vA (litD (d.nd j)))
theorem OnN.call {w u u' : World} {d : FD} {o3 : Nat} {oa : Option Addr} {oc : Nat} {Bs : Nat → Nat} (h : OnN w d o3 oa oc Bs u) (hb : Below u.heap.size u u') : OnN w d o3 oa oc Bs u' := ⟨h.o3.call hb, h.row.below hb, fun j hj => (h.bs j hj).call hb⟩
theorem OnN.old {w w0 u : World} {d : FD} {o3 : Nat} {oa : Option Addr} {oc : Nat} {Bs : Nat → Nat} (h : OnN w d o3 oa oc Bs u) (hb : w0.heap.size ≤ w.heap.size) : OnN w0 d o3 oa oc Bs u := ⟨h.o3.old hb, h.row.less hb, fun j hj => (h.bs j hj).old hb⟩
theorem OnN.gx {w u u' : World} {d : FD} {o3 : Nat} {oa : Option Addr} {oc : Nat} {Bs : Nat → Nat} {C : Nat} (h : OnN w d o3 oa oc Bs u) (hC : C < w.heap.size) (g : Gx (fun k => k = C) u u') : OnN w d o3 oa oc Bs u' := ⟨h.o3.gx (Nat.le_refl _) hC g, h.row.gx hC g, fun j hj => (h.bs j hj).gx (Nat.le_refl _) hC g⟩
theorem OnN.alloc {w u : World} {d : FD} {o3 : Nat} {oa : Option Addr} {oc : Nat} {Bs : Nat → Nat} (h : OnN w d o3 oa oc Bs u) (o : Obj) : OnN w d o3 oa oc Bs (u.alloc o) := h.call (below_alloc _ _)
theorem OnN.set {w u : World} {d : FD} {o3 : Nat} {oa : Option Addr} {oc : Nat} {Bs : Nat → Nat} {C o : Nat} {v : Value} (h : OnN w d o3 oa oc Bs u) (hC : C < w.heap.size) : OnN w d o3 oa oc Bs (u.setCell ⟨C, o, none⟩ v) := h.gx hC (Gx.set u C o v)

theorem OnN.put {w w1 u : World} {d : FD} {o3 : Nat} {oa : Option Addr} {oc : Nat} {Bs : Nat → Nat} {C o : Nat} {v : Value} (h1 : OnN w d o3 oa oc Bs w1) (h : OnN w d o3 oa oc Bs u) (hC : C < w.heap.size ∨ w1.heap.size ≤ C) : OnN w d o3 oa oc Bs (u.setCell ⟨C, o, none⟩ v) := by
  rcases hC with hC | hC
  · exact h.set hC
  · refine ⟨⟨h.o3.n, has_other h.o3.h (by have := h1.o3.h.1; omega)⟩, fun h0 => ?_, fun j hj => ⟨(h.bs j hj).n, has_other (h.bs j hj).h (by have := (h1.bs j hj).h.1; omega)⟩⟩
    obtain ⟨b, off, e, q1, q2, q3⟩ := h.row h0
    obtain ⟨b', off', e', _, p2, _⟩ := h1.row h0
    rw [e] at e'
    cases e'
    exact ⟨b, off, e, q1, by simpa using q2, fun i hi j hj => (World.cell?_setCell_far u ⟨C, o, none⟩ ⟨b, off + i * 1 + j, none⟩ v (by show C ≠ b; omega)).trans (q3 i hi j hj)⟩
/-- a counted loop, as closures -/
structure CsN (w : World) (M bb : Nat) (d : FD) (A : Array Value) (P : PX) (L : LX) (u : World) : Prop where
  e : PsN w bb A P u
  c1 : Nw w u L.c1 #[ptr M]
  c2 : Nw w u L.c2 #[onesV L.o3]
  on : OnN w d L.o3 L.oa L.oc L.Bs u
  c3 : Nw w u L.c3 L.nA
  c4 : Nw w u L.c4 #[bkV P.k1]
theorem ct_mk {e : Ending} {w w' : World} {M bb : Nat} {d : FD} {A nA : Array Value} (P : PX) (c1 c3 O : Nat) (oa : Option Addr) (oc : Nat) (Bs : Nat → Nat) (h : ∃ c2 c4, e = .returned (cntV c1 c2 c3 c4) ∧ CsN w M bb d A P ⟨c1, c2, c3, c4, O, oa, oc, Bs, nA, 0, 0, 0⟩ w' ∧ Below w.heap.size w w') : ∃ (P : PX) (L : LX), e = .returned (cntV L.c1 L.c2 L.c3 L.c4) ∧ CsN w M bb d A P L w' ∧ L.nA = nA ∧ Below w.heap.size w w' := by
  obtain ⟨c2, c4, h1, h2, h3⟩ := h
  exact ⟨P, _, h1, h2, rfl, h3⟩
set_option maxRecDepth 100000 in
set_option maxHeartbeats 16000000 in
theorem countB_calls (M bb : Nat) (d : FD) (x : FA) (q : ND) (y : NA) (t s n i j : Nat) (w : World) (h : BB M bb d x w) (hq : CtN d x q y w t s n i j) :
    Calls Tryz.prog 173 #[ptr bb, nodeV q y] w fun e w' => ∃ (P : PX) (L : LX), e = .returned (cntV L.c1 L.c2 L.c3 L.c4) ∧ CsN w M bb d (nodeC (d.nd s) (x.nas s)) P L w' ∧ L.nA = nodeC q y ∧ Below w.heap.size w w' := by
  have HB : Hid (BB M bb d x w) := h
  have HQ : Hid (CtN d x q y w t s n i j) := hq
  have hmf := mkFunc'
  have b0 := h.b.cell 0 rfl
  have hbl := h.b.1
  obtain ⟨kb, ko, e2, _, hkb, d0⟩ := hq.c (by rw [hq.kn]; omega)
  have d3 : w.cell? ⟨kb, ko + 3, none⟩ = some (.int .i64 (t : Int)) := by
    rw [← hq.c3]
    exact d0 3 (by rw [hq.kn]; omega) 0 (by omega)
  have hcap := hq.cap
  have hcap3 : 3 ≤ y.kc := by omega
  have hcapI : (3 : Int) ≤ (y.kc : Int) := by omega
  have HR : Hid (RowN 1 0 w (some ⟨kb, ko, none⟩) 3 fun j => #[.int .i64 (j : Int)]) := fun _ => ⟨kb, ko, rfl, Nat.zero_le _, hkb, fun i hi j hj => by show w.cell? _ = #[Value.int .i64 (i : Int)][j]?; rw [← (hq.cj i hi).1]; exact d0 i (by rw [hq.kn]; omega) j hj⟩
  show Calls Tryz.prog 173 #[ptr bb, .agg #[.int .i64 q.k, .int .i64 q.l, .int .i64 q.o, .int .i64 q.n, .float .f64 q.f, .string q.s, .slice y.ra q.rn y.rc, .slice y.ka q.kn y.kc]] w fun e w' => ∃ (P : PX) (L : LX), e = .returned (cntV L.c1 L.c2 L.c3 L.c4) ∧ CsN w M bb d (nodeC (d.nd s) (x.nas s)) P L w' ∧ L.nA = #[.int .i64 q.k, .int .i64 q.l, .int .i64 q.o, .int .i64 q.n, .float .f64 q.f, .string q.s, .slice y.ra q.rn y.rc, .slice y.ka q.kn y.kc] ∧ Below w.heap.size w w'
  rw [hq.kn, e2]
  generalize y.kc = kc at *
  clear h hq e2 d0
  go_enter Tryz.func173, Tryz.ntmps173
  go_upto_region 2 with fail
  obtain ⟨nA, hnA⟩ : ∃ nA : Array Value, #[.int .i64 q.k, .int .i64 q.l, .int .i64 q.o, .int .i64 q.n, .float .f64 q.f, .string q.s, .slice y.ra q.rn y.rc, .slice (some ⟨kb, ko, none⟩) 4 kc] = nA := ⟨_, rfl⟩
  obtain ⟨w0, hw0⟩ : ∃ w0, (w.alloc (.cells #[.int .i64 q.k, .int .i64 q.l, .int .i64 q.o, .int .i64 q.n, .float .f64 q.f, .string q.s, .slice y.ra q.rn y.rc, .slice (some ⟨kb, ko, none⟩) 4 kc] 95)).alloc (.cells #[ptr M] 40) = w0 := ⟨_, rfl⟩
  have HW0 : Hid (Below w.heap.size w w0 ∧ w.heap.size + 1 < w0.heap.size ∧ Has w0 w.heap.size nA ∧ Has w0 (w.heap.size + 1) #[ptr M]) := by rw [← hw0, ← hnA]; exact ⟨below_alloc2 _ _ _, by simp, (Has.new _ _ _).alloc _, has_new1 _ _ _ _⟩
  have e7 : w0.cell? ⟨w.heap.size, 7, none⟩ = some (.slice (some ⟨kb, ko, none⟩) 4 kc) := by rw [← hw0]; exact ((Has.new w _ _).alloc _).cell 7 rfl
  have e1 : w0.cell? ⟨kb, ko + 3, none⟩ = some (.int .i64 (t : Int)) := (HW0.out.1.cell (p := ⟨kb, ko + 3, none⟩) hkb).trans d3
  rw [hw0]
  have HC : Hid (∀ u, Below w0.heap.size w0 u → u.cell? ⟨w.heap.size, 7, none⟩ = some (.slice (some ⟨kb, ko, none⟩) 4 kc) ∧ u.cell? ⟨kb, ko + 3, none⟩ = some (.int .i64 (t : Int))) := fun u hu => by
    have h9 := HW0.out.2.1
    exact ⟨(hu.cell (p := ⟨w.heap.size, 7, none⟩) (by show w.heap.size < w0.heap.size; omega)).trans e7, (hu.cell (p := ⟨kb, ko + 3, none⟩) (by show kb < w0.heap.size; omega)).trans e1⟩
  clear hw0 d3 e7 e1 b0 hbl
  go_region_held3 (fun u => u.cell? ⟨w.heap.size, 7, none⟩ = some (.slice (some ⟨kb, ko, none⟩) 4 kc) ∧ u.cell? ⟨kb, ko + 3, none⟩ = some (.int .i64 (t : Int))) (first | (refine HC.out _ ?_; (repeat (first | exact HB2.out.1 | exact HB1.out | exact bl_refl _ | refine bl_alloc ?_ _ | refine bl_drew ?_ | refine bl_set ?_ _ (by have h1 := HB1.out.size; have h2 := HB2.out.1.size; have h3 := HB2.out.2.1; omega))); done))
   (first
    | (go_at_call 204; refine (onesB_calls M bb d x (some ⟨kb, ko, none⟩) 3 _ (fun j => j) _ ?_ (by omega) (fun j hj => ⟨(HQ.out.cj j hj).2.1, .inl (HQ.out.cj j hj).2.2⟩) ?_).mono ?_; (refine (HB.out.call HW0.out.1).call ?_; (repeat (first | exact bl_refl _ | refine bl_alloc ?_ _ | refine bl_drew ?_))); (refine (HR.out.below HW0.out.1).below ?_; (repeat (first | exact bl_refl _ | refine bl_alloc ?_ _ | refine bl_drew ?_))); rintro e w1 ⟨⟨O, oa, oc, Bs, rfl, hO1, hO2, hO3, hO4, _⟩, hb1⟩; have hO : OnN _ d O oa oc Bs w1 := ⟨⟨hO1, hO2⟩, hO3.less (Nat.le_succ _), fun j hj => ⟨(hO4 j hj).1, (hO4 j hj).2⟩⟩; have HO : Hid _ := hO; have HB1 : Hid (Below w0.heap.size w0 w1) := (by refine below_call ?_ hb1; (repeat (first | exact bl_refl _ | refine bl_alloc ?_ _ | refine bl_drew ?_))); (first | (have hx := box00 hb1; have m1 := hx.b.1.1) | (have hx := box0 hb1; have m1 := hx.a.1.1; have m2 := Nat.ne_of_lt m1; have m3 := Nat.ne_of_gt m1) | (have hx := True.intro)); clear hb1 hO1 hO2 hO3 hO4 hO)
    | (go_at_call 82; refine (stmtPrints_calls M bb d x t s n i j _ ?_ HQ.out.b).mono ?_; (refine (HB.out.call HW0.out.1).call ?_; (repeat (first | exact HB1.out | refine bl_alloc ?_ _))); rintro e w2 ⟨P, rfl, hP, hb2⟩; have HP : Hid _ := hP; have HB2 : Hid (Below w0.heap.size w0 w2 ∧ w1.heap.size ≤ w2.heap.size ∧ OnN _ d O oa oc Bs w2) := (by
        have hx : Below w1.heap.size w1 w2 := (by refine below_call ?_ hb2; (repeat (first | exact bl_refl _ | refine bl_alloc ?_ _)))
        exact ⟨below_call HB1.out hx, hx.size, HO.out.call hx⟩); (first | (have hy := Bp.call hx hb2) | (have hy := Bo.next hx hb2) | (have hy := Bo.call hx hb2) | (have hy := box2 hb2) | (have hy := box1 hb2) | (have hy := True.intro)); (first | (have c1 := hy.a.1.cell 0 rfl; have z1 := hy.a.2; have l1 := hy.a.1.1; have c2 := hy.b.1.cell 0 rfl; have z2 := hy.b.2; have l2 := hy.b.1.1; have n1 := Nat.ne_of_lt l1; have n2 := Nat.ne_of_gt l1; have n3 := Nat.ne_of_lt l2; have n4 := Nat.ne_of_gt l2) | (have c1 := hy.a.1.cell 0 rfl; have z1 := hy.a.2; have l1 := hy.a.1.1; have n1 := Nat.ne_of_lt l1; have n2 := Nat.ne_of_gt l1) | skip); clear hb2 hP))
  all_goals
    go_wp2_with fail
    go_ret
    refine ct_mk P (w.heap.size + 1) w.heap.size O oa oc Bs ⟨_, _, rfl, ?_⟩
    obtain ⟨q1, q2, q3, q4⟩ := HW0.out
    have q5 := HB1.out.size
    obtain ⟨q6, q7, q8⟩ := HB2.out
    have q9 := q6.size
    have q10 := q3.call q6
    have q11 := q4.call q6
    refine ⟨⟨?_, ⟨by show _ ≤ w.heap.size + 1; omega, ?_⟩, ⟨?_, ?_⟩, ?_, ⟨Nat.le_refl _, ?_⟩, ⟨?_, ?_⟩⟩, below_call q1 ?_⟩
    all_goals (try dsimp only)
    all_goals (try omega)
    all_goals (try rw [hnA])
    all_goals (try (first
      | exact ((q8.alloc _).alloc _).old (by first | omega | (simp; omega) | simp)
      | exact (OnN.put HO.out (q8.alloc _) (by first | omega | (simp; omega) | simp)).old (by first | omega | (simp; omega) | simp)
      | exact ((OnN.put HO.out q8 (by first | omega | (simp; omega) | simp)).alloc _).old (by first | omega | (simp; omega) | simp)
      | exact (OnN.put HO.out (OnN.put HO.out q8 (by first | omega | (simp; omega) | simp)) (by first | omega | (simp; omega) | simp)).old (by first | omega | (simp; omega) | simp)
      | exact ((HP.out.alloc _).alloc _).old (by first | omega | (simp; omega) | simp)
      | exact ((HP.out.alloc _).set (by first | omega | (simp; omega) | simp)).old (by first | omega | (simp; omega) | simp)
      | exact ((HP.out.set (by first | omega | (simp; omega) | simp)).alloc _).old (by first | omega | (simp; omega) | simp)
      | exact ((HP.out.set (by first | omega | (simp; omega) | simp)).set (by first | omega | (simp; omega) | simp)).old (by first | omega | (simp; omega) | simp)))
    all_goals (repeat (first | with_reducible exact q10 | with_reducible exact q11 | with_reducible exact q6 | with_reducible exact Has.new _ _ _ | with_reducible exact has_new1 _ _ _ _ | with_reducible exact has_newS _ _ _ _ _ | with_reducible refine Has.alloc ?_ _ | with_reducible refine bl_alloc ?_ _ | (with_reducible refine bl_set ?_ _ (by omega)) | with_reducible exact hy.a | with_reducible exact hy.b | with_reducible exact OwnB.new _ _ _ | with_reducible exact own_new1 _ _ _ _ | with_reducible refine OwnB.alloc ?_ _ | with_reducible refine has_same (x := .nilFunc) ?_ | (with_reducible refine has_other ?_ (by omega)) | (with_reducible refine own_other ?_ (by omega))))
end Go.Proofs.YtdialodjllpgaaaGreatDoor

/-! The specification makes units: what its builder holds. -/
namespace Go.Proofs.YtdialodjllpgaaaGreatDoor
open Go.RowKit

/-- where a unit in the making lies -/
structure LBI where
  N : Nat
  B : Nat
  C : Nat
  F : Nat
  K : Nat
  fc : Nat
  kc : Nat
structure LBI.ok (I : LBI) : Prop where
  b : I.B < I.N
  c : I.C < I.N
  f : I.F < I.N
  k : I.K < I.N
  bc : I.B ≠ I.C
  bf : I.B ≠ I.F
  bk : I.B ≠ I.K
  cf : I.C ≠ I.F
  ck : I.C ≠ I.K
  fk : I.F ≠ I.K
/-- what it is -/
structure LBS where
  lf : Int
  ln : Int
  A : Nat
  va : Option Addr
  vc : Nat
  vl : List Value
  l : List (ND × NA)
  na : Option Addr
  nc : Nat
def n8 (p : ND × NA) : List Value := (nodeC p.1 p.2).toList
def nLs (l : List (ND × NA)) : List Value := l.flatMap n8
/-- a list of ints that lies apart -/
def rOk (I : LBI) (S : LBS) (u : World) (a : Option Addr) (n : Nat) (q : Nat → Int) : Prop := IntsAt 0 u a n q ∧ ∀ b, a = some b → I.N ≤ b.block ∧ b.block < u.heap.size ∧ bkOf S.na ≠ some b.block ∧ bkOf S.va ≠ some b.block
def FnB (u : World) (F : Nat) (va na : Value) : Prop := ∃ A, OwnB u F A ∧ A[0]? = some (.string ⟨#[109, 97, 105, 110]⟩) ∧ A[1]? = some (.int .i64 0) ∧ A[2]? = some (.int .i64 0) ∧ A[3]? = some (.bool true) ∧ A[4]? = some va ∧ A[5]? = some (.slice none 0 0) ∧ A[6]? = some na
def KxB (u : World) (K : Nat) (ln : Int) : Prop := ∃ A, OwnB u K A ∧ A[0]? = some (.int .i64 0) ∧ A[4]? = some (.int .i64 ln)
structure LB (I : LBI) (S : LBS) (u : World) : Prop where
  i : I.ok
  b : OwnB u I.B #[ptr I.C, .slice (some ⟨I.F, 0, none⟩) 1 I.fc, .slice (some ⟨I.K, 0, none⟩) 1 I.kc, .int .i64 S.lf]
  c : CU I.C none 0 0 S.A u
  f : FnB u I.F (.slice S.va S.vl.length S.vc) (.slice S.na S.l.length S.nc)
  k : KxB u I.K S.ln
  r : u.ownsRow I.N 95 8 (.slice S.na S.l.length S.nc) S.l.length (nLs S.l)
  v : u.ownsRow I.N 9 1 (.slice S.va S.vl.length S.vc) S.vl.length S.vl
  x : ∀ p, p ∈ S.l → rOk I S u p.2.ra p.1.rn p.1.r ∧ rOk I S u p.2.ka p.1.kn p.1.c ∧ p.1.kn ≤ p.2.kc
  n : I.N ≤ u.heap.size
section
variable {I : LBI} {S : LBS} {u u' : World}
theorem rOk.call {a : Option Addr} {n : Nat} {q : Nat → Int} (h : rOk I S u a n q) (hb : Below u.heap.size u u') : rOk I S u' a n q := ⟨RowN.below h.1 hb, fun b e => ⟨(h.2 b e).1, Nat.lt_of_lt_of_le (h.2 b e).2.1 hb.size, (h.2 b e).2.2⟩⟩
theorem rOk.gx {a : Option Addr} {n : Nat} {q : Nat → Int} {T : Nat → Prop} {S' : LBS} (h : rOk I S u a n q) (g : Gx T u u') (hT : ∀ k, T k → k < I.N ∨ bkOf S.na = some k ∨ bkOf S.va = some k) (hs : ∀ k, k < u.heap.size → (bkOf S'.na = some k → bkOf S.na = some k) ∧ (bkOf S'.va = some k → bkOf S.va = some k)) : rOk I S' u' a n q := by
  have hT' : ∀ b, a = some b → ¬ T b.block := fun b e t => by
    obtain ⟨h1, h2, h3, h4⟩ := h.2 b e
    rcases hT _ t with c | c | c
    · omega
    · exact h3 c
    · exact h4 c
  refine ⟨fun h0 => ?_, fun b e => ⟨(h.2 b e).1, Nat.lt_of_lt_of_le (h.2 b e).2.1 g.size, fun c => (h.2 b e).2.2.1 ((hs _ (h.2 b e).2.1).1 c), fun c => (h.2 b e).2.2.2 ((hs _ (h.2 b e).2.1).2 c)⟩⟩
  obtain ⟨b, off, e, h1, h2, h3⟩ := h.1 h0
  exact ⟨b, off, e, h1, Nat.lt_of_lt_of_le h2 g.size, fun i hi j hj => (World.cell?_of_block (a := ⟨b, off + i * 1 + j, none⟩) (g.block b h2 (hT' _ e))).trans (h3 i hi j hj)⟩
theorem LB.call (h : LB I S u) (hb : Below u.heap.size u u') : LB I S u' := by
  obtain ⟨A, a1, a2⟩ := h.f
  obtain ⟨B, b1, b2⟩ := h.k
  exact ⟨h.i, h.b.call hb, h.c.call hb, ⟨A, a1.call hb, a2⟩, ⟨B, b1.call hb, b2⟩, ownsK_below h.r hb, ownsK_below h.v hb, fun p hp => ⟨(h.x p hp).1.call hb, (h.x p hp).2.1.call hb, (h.x p hp).2.2⟩, Nat.le_trans h.n hb.size⟩
theorem LB.alloc (h : LB I S u) (o : Obj) : LB I S (u.alloc o) := h.call (below_alloc _ _)
theorem LB.drew (h : LB I S u) : LB I S u.drew := h.call (Below.refl _ _).drew
theorem FnB.other {F Q o : Nat} {va na v : Value} (h : FnB u F va na) (hn : F ≠ Q) : FnB (u.setCell ⟨Q, o, none⟩ v) F va na := by
  obtain ⟨A, h1, h2⟩ := h
  exact ⟨A, own_other h1 hn, h2⟩
theorem KxB.other {F Q o : Nat} {ln : Int} {v : Value} (h : KxB u F ln) (hn : F ≠ Q) : KxB (u.setCell ⟨Q, o, none⟩ v) F ln := by
  obtain ⟨A, h1, h2⟩ := h
  exact ⟨A, own_other h1 hn, h2⟩
theorem KxB.set {F : Nat} {ln z : Int} (h : KxB u F ln) : KxB (u.setCell ⟨F, 4, none⟩ (.int .i64 z)) F z := by
  obtain ⟨A, h1, h2, h3⟩ := h
  have hs : 4 < A.size := (Array.getElem?_eq_some_iff.1 h3).1
  refine ⟨_, h1.set (o := 4) hs _, ?_, ?_⟩
  · rw [Array.getElem?_setIfInBounds_ne (by omega)]; exact h2
  · rw [Array.getElem?_setIfInBounds_self_of_lt hs]
theorem FnB.set6 {F : Nat} {va na v : Value} (h : FnB u F va na) : FnB (u.setCell ⟨F, 6, none⟩ v) F va v := by
  obtain ⟨A, h1, a0, a1, a2, a3, a4, a5, a6⟩ := h
  have hs : 6 < A.size := (Array.getElem?_eq_some_iff.1 a6).1
  refine ⟨_, h1.set (o := 6) hs _, ?_, ?_, ?_, ?_, ?_, ?_, ?_⟩
  · rw [Array.getElem?_setIfInBounds_ne (by omega)]; exact a0
  · rw [Array.getElem?_setIfInBounds_ne (by omega)]; exact a1
  · rw [Array.getElem?_setIfInBounds_ne (by omega)]; exact a2
  · rw [Array.getElem?_setIfInBounds_ne (by omega)]; exact a3
  · rw [Array.getElem?_setIfInBounds_ne (by omega)]; exact a4
  · rw [Array.getElem?_setIfInBounds_ne (by omega)]; exact a5
  · rw [Array.getElem?_setIfInBounds_self_of_lt hs]
theorem FnB.set4 {F : Nat} {va na v : Value} (h : FnB u F va na) : FnB (u.setCell ⟨F, 4, none⟩ v) F v na := by
  obtain ⟨A, h1, a0, a1, a2, a3, a4, a5, a6⟩ := h
  have hs : 4 < A.size := (Array.getElem?_eq_some_iff.1 a4).1
  refine ⟨_, h1.set (o := 4) hs _, ?_, ?_, ?_, ?_, ?_, ?_, ?_⟩
  · rw [Array.getElem?_setIfInBounds_ne (by omega)]; exact a0
  · rw [Array.getElem?_setIfInBounds_ne (by omega)]; exact a1
  · rw [Array.getElem?_setIfInBounds_ne (by omega)]; exact a2
  · rw [Array.getElem?_setIfInBounds_ne (by omega)]; exact a3
  · rw [Array.getElem?_setIfInBounds_self_of_lt hs]
  · rw [Array.getElem?_setIfInBounds_ne (by omega)]; exact a5
  · rw [Array.getElem?_setIfInBounds_ne (by omega)]; exact a6
theorem FnB.block {F : Nat} {va na : Value} (h : FnB u F va na) (hs : u.heap.size ≤ u'.heap.size) (hk : u'.heap[F]? = u.heap[F]?) : FnB u' F va na := by
  obtain ⟨A, h1, h2⟩ := h
  exact ⟨A, h1.block hs hk, h2⟩
theorem KxB.block {F : Nat} {ln : Int} (h : KxB u F ln) (hs : u.heap.size ≤ u'.heap.size) (hk : u'.heap[F]? = u.heap[F]?) : KxB u' F ln := by
  obtain ⟨A, h1, h2⟩ := h
  exact ⟨A, h1.block hs hk, h2⟩
theorem FnB.cell {F : Nat} {va na : Value} (h : FnB u F va na) : u.cell? ⟨F, 4, none⟩ = some va ∧ u.cell? ⟨F, 6, none⟩ = some na ∧ (∀ o, u.frozen? ⟨F, o, none⟩ = false) ∧ F < u.heap.size := by
  obtain ⟨A, h1, a0, a1, a2, a3, a4, a5, a6⟩ := h
  exact ⟨(h1.1.2 4).trans a4, (h1.1.2 6).trans a6, h1.2, h1.1.1⟩
theorem KxB.cell {F : Nat} {ln : Int} (h : KxB u F ln) : u.cell? ⟨F, 0, none⟩ = some (.int .i64 0) ∧ u.cell? ⟨F, 4, none⟩ = some (.int .i64 ln) ∧ (∀ o, u.frozen? ⟨F, o, none⟩ = false) ∧ F < u.heap.size := by
  obtain ⟨A, h1, a0, a4⟩ := h
  exact ⟨(h1.1.2 0).trans a0, (h1.1.2 4).trans a4, h1.2, h1.1.1⟩
end
/-- what a call of the builder changes -/
structure Lx (I : LBI) (S : LBS) (u : World) (S' : LBS) (u' : World) : Prop where
  s : LB I S' u'
  g : Gx (fun k => k < I.N ∧ (k = I.B ∨ k = I.C ∨ k = I.F ∨ k = I.K) ∨ bkOf S.na = some k ∨ bkOf S.va = some k) u u'
  m : ∀ k, k < u.heap.size → (bkOf S'.na = some k → bkOf S.na = some k) ∧ (bkOf S'.va = some k → bkOf S.va = some k)
theorem Lx.below {I : LBI} {S : LBS} {u u' : World} (h : LB I S u) (hb : Below u.heap.size u u') : Lx I S u S u' := ⟨h.call hb, Gx.below _ hb, fun _ _ => ⟨fun e => e, fun e => e⟩⟩
theorem Lx.trans {I : LBI} {S S' S'' : LBS} {u u' u'' : World} (h : Lx I S u S' u') (k : Lx I S' u' S'' u'') : Lx I S u S'' u'' := by
  refine ⟨k.s, h.g.trans k.g (fun i hi e => ?_), fun i hi => ⟨fun e => (h.m i hi).1 ((k.m i (Nat.lt_of_lt_of_le hi h.g.size)).1 e), fun e => (h.m i hi).2 ((k.m i (Nat.lt_of_lt_of_le hi h.g.size)).2 e)⟩⟩
  rcases e with e | e | e
  · exact .inl e
  · exact .inr (.inl ((h.m i hi).1 e))
  · exact .inr (.inr ((h.m i hi).2 e))
theorem Lx.row {I : LBI} {S S' : LBS} {u u' : World} (h : Lx I S u S' u') {a : Option Addr} {n : Nat} {q : Nat → Int} (k : rOk I S u a n q) : rOk I S' u' a n q := k.gx h.g (fun i e => by
  rcases e with e | e | e
  · exact .inl e.1
  · exact .inr (.inl e)
  · exact .inr (.inr e)) h.m
end Go.Proofs.YtdialodjllpgaaaGreatDoor
