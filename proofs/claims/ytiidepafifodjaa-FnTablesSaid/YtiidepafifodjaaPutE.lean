import Derived.Test.YtiidepafifodjaaPutD
/-! Tables: put. -/
namespace Go.Proofs.Ytiidepafifodjaa
open Go.RowKit
attribute [local go_sem] run_store_float
attribute [local go_sem ↓] Go.wp_at_zero Go.wp_at_succ

/-- a table's pairs and turns -/
structure TD where
  n : Nat
  t : Int
  q : Nat → PD
def setV (q : Nat → PD) (i : Nat) (v : VD) : Nat → PD := fun j => if j = i then ⟨(q i).key, v, (q i).turn⟩ else q j
def addP (q : Nat → PD) (n : Nat) (p : PD) : Nat → PD := fun j => if j = n then p else q j
/-- what Put makes of a valid table -/
def putD (n : Nat) (t : Int) (q : Nat → PD) (y v : VD) : TD := match fnd q (mk y) n with
  | some i => if v.k = 0 then ⟨n - 1, t, rmv q i⟩ else ⟨n, t, setV q i v⟩
  | none => if v.k = 0 then ⟨n, t, q⟩ else if n < 500 ∧ t < 1000000000000 then ⟨n + 1, t + 1, addP q n ⟨y, v, t + 1⟩⟩ else ⟨n, t, q⟩

theorem CO.new {N : Nat} {w : World} {X : Nat} {a : Option Addr} {n cap B : Nat} {t : Int} {q : Nat → PD} {L : List (Mk × Nat)} (hN : N ≤ w.heap.size) (hX : XO N w X a n cap B t q L) (y v : VD) : CO N w X a n cap B t q L w.heap.size (w.heap.size + 1) y v ((w.alloc (.cells (vCs y) 42)).alloc (.cells (vCs v) 42)) := by
  have h1 := Has.new w (vCs y) 42
  have h2 := Has.new (w.alloc (.cells (vCs y) 42)) (vCs v) 42
  rw [World.size_alloc] at h2
  exact ⟨(hX.alloc _).alloc _, h1.alloc _, h2, ((Below.refl N w).alloc hN _).alloc (by rw [World.size_alloc]; omega) _, hN, fun b off sp e => by have := own_lt hX.own e; simp at this; omega⟩

set_option maxRecDepth 100000 in
set_option maxHeartbeats 8000000 in
theorem put_none (N X : Nat) (a : Option Addr) (n cap B : Nat) (t : Int) (q : Nat → PD) (L : List (Mk × Nat)) (y v : VD) (w : World) (hN : N ≤ w.heap.size) (hn : n ≤ 500) (t0 : 0 ≤ t) (hL : ∀ u, MapIs u B L → (Instr.lookup 113 (.map (some B)) (mkV (mk y)) true).run Try.prog u = .ok (.tuple #[.int .i64 0, .bool false]) u) (hX : XO N w X a n cap B t q L) :
    Calls Try.prog 76 #[.pointer (some ⟨X, 0, none⟩), y.v, v.v] w fun e w' => e = .returned (.tuple #[]) ∧ (if v.k = 0 ∨ ¬ (n < 500 ∧ t < 1000000000000) then ∃ L', XO N w' X a n cap B t q L' else ∃ a' cap' L', XO N w' X a' (n + 1) cap' B (t + 1) (addP q n ⟨y, v, t + 1⟩) L') ∧ Below N w w' := by
  have hC : CO N w X a n cap B t q L w.heap.size (w.heap.size + 1) y v ((w.alloc (.cells (vCs y) 42)).alloc (.cells (vCs v) 42)) := CO.new hN hX y v
  have HM : Hid (∀ w, Calls Try.prog 126 #[y.v] w fun e w' => e = .returned (mkV (mk y)) ∧ Below w.heap.size w w') := fun w => markOf_calls y w
  have HL : Hid (∀ u, MapIs u B L → (Instr.lookup 113 (.map (some B)) (mkV (mk y)) true).run Try.prog u = .ok (.tuple #[.int .i64 0, .bool false]) u) := fun u h => hL u h
  generalize mk y = m at HM HL
  clear hX hN hL
  go_enter Try.func76, Try.ntmps76
  go_wp2_with fail
  obtain ⟨W1, hW1⟩ : ∃ W1, (w.alloc (.cells (vCs y) 42)).alloc (.cells (vCs v) 42) = W1 := ⟨_, rfl⟩
  rw [hW1] at hC ⊢
  clear hW1
  obtain ⟨KB, hKB⟩ : ∃ KB, w.heap.size = KB := ⟨_, rfl⟩
  obtain ⟨VB, hVB⟩ : ∃ VB, KB + 1 = VB := ⟨_, rfl⟩
  rw [hKB, hVB] at hC
  rw [hKB, hVB]
  clear hVB
  have HC : Hid (CO N w X a n cap B t q L KB VB y v W1) := hC
  clear hC
  go_region_held3 (fun w' => w'.cell? ⟨X, 0, none⟩ = some (.slice a n cap) ∧ w'.cell? ⟨X, 1, none⟩ = some (.map (some B)) ∧ w'.cell? ⟨KB, 0, none⟩ = some (.int .i64 y.k) ∧ w'.cell? ⟨KB, 1, none⟩ = some (.int .i64 y.n) ∧ w'.cell? ⟨KB, 2, none⟩ = some (.float .f64 y.f) ∧ w'.cell? ⟨KB, 3, none⟩ = some (.string y.s) ∧ w'.cell? ⟨KB, 4, none⟩ = some (.int .i64 y.r)) (first | (with_reducible exact HC4.out.s2) | (with_reducible exact HC.out.s2) | (with_reducible exact HC.out.drew.s2)) ((go_at_call 126; refine (HM.out _).mono ?_; rintro e w4 ⟨rfl, hb4⟩; have HC4 : Hid (CO N w X a n cap B t q L KB VB y v w4) := (by first | exact HC.out.call hb4 | exact HC.out.drew.call hb4); clear HC hb4; have hlk := HL.out w4 HC4.out.x.map))
  clear HM HL hlk
  have c0 := HC4.out.x.c0
  have c2 := HC4.out.x.c2
  have k0 := HC4.out.k.at 0
  have k1 := HC4.out.k.at 1
  have k2 := HC4.out.k.at 2
  have k3 := HC4.out.k.at 3
  have k4 := HC4.out.k.at 4
  have v0 := HC4.out.v.at 0
  have v1 := HC4.out.v.at 1
  have v2 := HC4.out.v.at 2
  have v3 := HC4.out.v.at 3
  have v4 := HC4.out.v.at 4
  simp only [List.getElem?_toArray, List.getElem?_cons_zero, List.getElem?_cons_succ] at k0 k1 k2 k3 k4 v0 v1 v2 v3 v4
  by_cases hv : v.k = 0
  · go_wp2_with fail
    go_end0
    exact ⟨rfl, ⟨_, HC4.out.x⟩, HC4.out.b⟩
  · by_cases hn5 : n < 500
    · have hn6 : (n : Int) < 500 := by omega
      by_cases ht : t < 1000000000000
      · go_wp2_with (go_at_call 128; refine (comes_calls N X a n cap B t q L y v _ (Nat.le_trans HC4.out.s HC4.out.b.size) hn5 t0 ht HC4.out.x).mono ?_; rintro e w5 ⟨rfl, hx5, hb5⟩)
        go_end0
        exact ⟨rfl, hx5, HC4.out.b.trans hb5⟩
      · go_wp2_with fail
        go_end0
        exact ⟨rfl, ⟨_, HC4.out.x⟩, HC4.out.b⟩
    · have hn6 : ¬ (n : Int) < 500 := by omega
      go_wp2_with fail
      go_end0
      exact ⟨rfl, ⟨_, HC4.out.x⟩, HC4.out.b⟩

theorem CO.s4 {N : Nat} {w0 : World} {X : Nat} {a : Option Addr} {n cap B : Nat} {t : Int} {q : Nat → PD} {L : List (Mk × Nat)} {KB VB : Nat} {y v : VD} {w' : World} (h : CO N w0 X a n cap B t q L KB VB y v w') : w'.cell? ⟨X, 0, none⟩ = some (.slice a n cap) ∧ w'.cell? ⟨VB, 0, none⟩ = some (.int .i64 v.k) ∧ w'.cell? ⟨VB, 1, none⟩ = some (.int .i64 v.n) ∧ w'.cell? ⟨VB, 2, none⟩ = some (.float .f64 v.f) ∧ w'.cell? ⟨VB, 3, none⟩ = some (.string v.s) ∧ w'.cell? ⟨VB, 4, none⟩ = some (.int .i64 v.r) := ⟨h.x.c0, h.v.at 0, h.v.at 1, h.v.at 2, h.v.at 3, h.v.at 4⟩
structure S4 (X g n cap VB : Nat) (v : VD) (w' : World) : Prop where
  c : w'.cell? ⟨X, 0, none⟩ = some (.slice (some ⟨g, 0, none⟩) n cap) ∧ w'.cell? ⟨VB, 0, none⟩ = some (.int .i64 v.k) ∧ w'.cell? ⟨VB, 1, none⟩ = some (.int .i64 v.n) ∧ w'.cell? ⟨VB, 2, none⟩ = some (.float .f64 v.f) ∧ w'.cell? ⟨VB, 3, none⟩ = some (.string v.s) ∧ w'.cell? ⟨VB, 4, none⟩ = some (.int .i64 v.r)
theorem drew_cell (u : World) (a : Addr) : u.drew.cell? a = u.cell? a := rfl
theorem nest5 (w : World) (g o : Nat) (v : VD) : w.setCells g o (vCs v).toList = ((((w.setCell ⟨g, o, none⟩ (.int .i64 v.k)).setCell ⟨g, o + 1, none⟩ (.int .i64 v.n)).setCell ⟨g, o + 2, none⟩ (.float .f64 v.f)).setCell ⟨g, o + 3, none⟩ (.string v.s)).setCell ⟨g, o + 4, none⟩ (.int .i64 v.r) := by
  simp only [World.setCells]
theorem five_far (w : World) {g o X : Nat} (v : VD) (h : X ≠ g) (off : Nat) : (w.setCells g o (vCs v).toList).drew.cell? ⟨X, off, none⟩ = w.cell? ⟨X, off, none⟩ :=
  (drew_cell _ _).trans (World.cell?_setCells_out g (vCs v).toList o w ⟨X, off, none⟩ fun e _ => absurd e h)
theorem own_fro {N : Nat} {w : World} {g n cap : Nat} {q : Nat → PD} {T : TypeId} (h : w.ownsRow N T 11 (.slice (some ⟨g, 0, none⟩) n cap) n (cellsOf q n)) : ∀ o, w.frozen? ⟨g, o, none⟩ = false := by
  obtain ⟨_, cur, hh, _⟩ := own_at h
  intro o
  simp [World.frozen?, hh]
theorem fl_setV_out (q : Nat → PD) (i : Nat) (v : VD) (j : Nat) (h : j < i * 11 + 5 ∨ i * 11 + 10 ≤ j) : fl (setV q i v) j = fl q j := by
  unfold fl setV
  by_cases c : j / 11 = i
  · rw [if_pos c]
    subst c
    have hj : j % 11 < 5 ∨ j % 11 = 10 := by omega
    rcases hj with hj | hj
    · rcases (show j % 11 = 0 ∨ j % 11 = 1 ∨ j % 11 = 2 ∨ j % 11 = 3 ∨ j % 11 = 4 by omega) with e | e | e | e | e <;> rw [e] <;> rfl
    · rw [hj]; rfl
  · rw [if_neg c]
theorem fl_setV_in (q : Nat → PD) (i : Nat) (v : VD) (j : Nat) (hj : j < 5) : some (fl (setV q i v) (i * 11 + 5 + j)) = (vCs v).toList[j]? := by
  rw [Nat.add_assoc, fl_at _ i (5 + j) (by omega)]
  unfold setV
  rw [if_pos rfl]
  rcases (show j = 0 ∨ j = 1 ∨ j = 2 ∨ j = 3 ∨ j = 4 by omega) with e | e | e | e | e <;> rw [e] <;> rfl
theorem own_setV {N : Nat} {w : World} {g n cap i : Nat} {q : Nat → PD} {T : TypeId} (h : w.ownsRow N T 11 (.slice (some ⟨g, 0, none⟩) n cap) n (cellsOf q n)) (hi : i < n) (v : VD) :
    (w.setCells g (i * 11 + 5) (vCs v).toList).ownsRow N T 11 (.slice (some ⟨g, 0, none⟩) n cap) n (cellsOf (setV q i v) n) := by
  obtain ⟨h3, cur, hh, h4, h5, h6, h7⟩ := own_at h
  obtain ⟨c1, a1, a2, a3, a4⟩ := heap_setCells_at g T (vCs v).toList (i * 11 + 5) w cur hh (by rw [h6]; show i * 11 + 5 + 5 ≤ _; omega)
  refine own_of h3 a1 h4 h5 (by rw [a2, h6]) fun j hj => ?_
  by_cases c : j < i * 11 + 5 ∨ i * 11 + 10 ≤ j
  · rw [a3 j c, h7 j hj, fl_setV_out q i v j c]
  · obtain ⟨k, rfl⟩ : ∃ k, j = i * 11 + 5 + k := ⟨j - (i * 11 + 5), by omega⟩
    rw [a4 k (by show k < 5; omega), ← fl_setV_in q i v k (by omega)]
theorem TS.setV {N : Nat} {w0 u : World} {X g n cap B : Nat} {t : Int} {q : Nat → PD} {L : List (Mk × Nat)} (h : TS N w0 X g n cap B t q L u) {i : Nat} (hi : i < n) (v : VD) : TS N w0 X g n cap B t (setV q i v) L (u.setCells g (i * 11 + 5) (vCs v).toList) := by
  have ho := own_setV h.x.own hi v
  have hg := grown_setCells g (vCs v).toList (i * 11 + 5) u
  obtain ⟨hc, hf⟩ := h.x.far hg
  have k0 := (hc 0).trans h.x.c0
  have k1 := (hc 1).trans h.x.c1
  have k2 := (hc 2).trans h.x.c2
  have rb : some B ≠ some g := fun e => by
    obtain ⟨_, cur, hh, _⟩ := own_at h.x.own
    obtain ⟨es, c, hm, _⟩ := h.x.map
    cases e
    rw [hm] at hh; cases hh
  have hM : MapIs (u.setCells g (i * 11 + 5) (vCs v).toList) B L := by
    have hl := h.x.map.lt
    obtain ⟨es, c, hm, e⟩ := h.x.map
    exact ⟨es, c, (hg.block B hl rb).trans hm, e⟩
  exact ⟨⟨h.x.lo, Nat.lt_of_lt_of_le h.x.lt hg.size, k0, k1, k2, hf, ho, hM, h.x.bl, h.x.ne⟩, h.b.grown hg (Nat.le_trans h.s h.b.size) (fun k e => by cases e; exact (own_at h.x.own).1), h.s⟩

set_option maxRecDepth 100000 in
set_option maxHeartbeats 8000000 in
theorem put_some (N X g m cap B : Nat) (t : Int) (q : Nat → PD) (L : List (Mk × Nat)) (y v : VD) (i : Nat) (w : World) (hN : N ≤ w.heap.size) (hn : m < 500) (hi : i < m + 1) (hL : ∀ u, MapIs u B L → (Instr.lookup 113 (.map (some B)) (mkV (mk y)) true).run Try.prog u = .ok (.tuple #[.int .i64 i, .bool true]) u) (hX : XO N w X (some ⟨g, 0, none⟩) (m + 1) cap B t q L) :
    Calls Try.prog 76 #[.pointer (some ⟨X, 0, none⟩), y.v, v.v] w fun e w' => e = .returned (.tuple #[]) ∧ (if v.k = 0 then ∃ L', XO N w' X (some ⟨g, 0, none⟩) m cap B t (rmv q i) L' else ∃ L', XO N w' X (some ⟨g, 0, none⟩) (m + 1) cap B t (setV q i v) L') ∧ Below N w w' := by
  have hC : CO N w X (some ⟨g, 0, none⟩) (m + 1) cap B t q L w.heap.size (w.heap.size + 1) y v ((w.alloc (.cells (vCs y) 42)).alloc (.cells (vCs v) 42)) := CO.new hN hX y v
  have HM : Hid (∀ w, Calls Try.prog 126 #[y.v] w fun e w' => e = .returned (mkV (mk y)) ∧ Below w.heap.size w w') := fun w => markOf_calls y w
  have HL : Hid (∀ u, MapIs u B L → (Instr.lookup 113 (.map (some B)) (mkV (mk y)) true).run Try.prog u = .ok (.tuple #[.int .i64 i, .bool true]) u) := fun u h => hL u h
  generalize mk y = k at HM HL
  clear hX hN hL
  go_enter Try.func76, Try.ntmps76
  go_wp2_with fail
  obtain ⟨W1, hW1⟩ : ∃ W1, (w.alloc (.cells (vCs y) 42)).alloc (.cells (vCs v) 42) = W1 := ⟨_, rfl⟩
  rw [hW1] at hC ⊢
  clear hW1
  obtain ⟨KB, hKB⟩ : ∃ KB, w.heap.size = KB := ⟨_, rfl⟩
  obtain ⟨VB, hVB⟩ : ∃ VB, KB + 1 = VB := ⟨_, rfl⟩
  rw [hKB, hVB] at hC
  rw [hKB, hVB]
  clear hVB
  have HC : Hid (CO N w X (some ⟨g, 0, none⟩) (m + 1) cap B t q L KB VB y v W1) := hC
  clear hC
  go_region_held3 (fun w' => w'.cell? ⟨X, 0, none⟩ = some (.slice (some ⟨g, 0, none⟩) (m + 1) cap) ∧ w'.cell? ⟨X, 1, none⟩ = some (.map (some B)) ∧ w'.cell? ⟨KB, 0, none⟩ = some (.int .i64 y.k) ∧ w'.cell? ⟨KB, 1, none⟩ = some (.int .i64 y.n) ∧ w'.cell? ⟨KB, 2, none⟩ = some (.float .f64 y.f) ∧ w'.cell? ⟨KB, 3, none⟩ = some (.string y.s) ∧ w'.cell? ⟨KB, 4, none⟩ = some (.int .i64 y.r)) (first | (with_reducible exact HC4.out.s2) | (with_reducible exact HC.out.s2) | (with_reducible exact HC.out.drew.s2)) ((go_at_call 126; refine (HM.out _).mono ?_; rintro e w4 ⟨rfl, hb4⟩; have HC4 : Hid (CO N w X (some ⟨g, 0, none⟩) (m + 1) cap B t q L KB VB y v w4) := (by first | exact HC.out.call hb4 | exact HC.out.drew.call hb4); clear HC hb4; have hlk := HL.out w4 HC4.out.x.map))
  clear HM HL hlk
  have c0 := HC4.out.x.c0
  have v0 := HC4.out.v.at 0
  simp only [List.getElem?_toArray, List.getElem?_cons_zero] at v0
  by_cases hv : v.k = 0
  · go_wp2_with (go_at_call 127; refine (takeOut_calls N X g m cap B i t q L _ (Nat.le_trans HC4.out.s HC4.out.b.size) hi hn HC4.out.x).mono ?_; rintro e w5 ⟨rfl, hx5, hb5⟩)
    go_end0
    exact ⟨rfl, hx5, HC4.out.b.trans hb5⟩
  · go_wp2_with fail
    have hI0 : (0 : Int) ≤ (i : Int) := Int.natCast_nonneg _
    have hI1 : (i : Int) < (m : Int) + 1 := by omega
    have v1 := HC4.out.v.at 1
    have v2 := HC4.out.v.at 2
    have v3 := HC4.out.v.at 3
    have v4 := HC4.out.v.at 4
    simp only [List.getElem?_toArray, List.getElem?_cons_zero, List.getElem?_cons_succ] at v1 v2 v3 v4
    have G : TS N w X g (m + 1) cap B t q L w4 := ⟨HC4.out.x, HC4.out.b, HC4.out.s⟩
    have g5 := G.at hi 5 (by omega)
    have g6 := G.at hi 6 (by omega)
    have g7 := G.at hi 7 (by omega)
    have g8 := G.at hi 8 (by omega)
    have g9 := G.at hi 9 (by omega)
    simp only [List.getElem?_toArray, List.getElem?_cons_zero, List.getElem?_cons_succ] at g5 g6 g7 g8 g9
    have hfro := (own_fro HC4.out.x.own)
    have HG : Hid (TS N w X g (m + 1) cap B t q L w4) := G
    have HV := (G.setV hi v).drew
    rw [nest5] at HV
    clear G
    have ng : X ≠ g := fun e => HC4.out.x.ne g 0 none rfl e.symm
    have nv : VB ≠ g := fun e => (HC4.out.nk g 0 none rfl).2 e.symm
    have HS5 : Hid (∀ w5, w5 = (((((w4.setCell ⟨g, i * 11 + 5, none⟩ (.int .i64 v.k)).setCell ⟨g, i * 11 + 5 + 1, none⟩ (.int .i64 v.n)).setCell ⟨g, i * 11 + 5 + 2, none⟩ (.float .f64 v.f)).setCell ⟨g, i * 11 + 5 + 3, none⟩ (.string v.s)).setCell ⟨g, i * 11 + 5 + 4, none⟩ (.int .i64 v.r)).drew → S4 X g (m + 1) cap VB v w5) := fun w5 e => by rw [e, ← nest5]; exact ⟨⟨(five_far w4 v ng _).trans c0, (five_far w4 v nv _).trans v0, (five_far w4 v nv _).trans v1, (five_far w4 v nv _).trans v2, (five_far w4 v nv _).trans v3, (five_far w4 v nv _).trans v4⟩⟩
    clear ng nv
    go_region_held3 (fun w' => w'.cell? ⟨X, 0, none⟩ = some (.slice (some ⟨g, 0, none⟩) (m + 1) cap) ∧ w'.cell? ⟨VB, 0, none⟩ = some (.int .i64 v.k) ∧ w'.cell? ⟨VB, 1, none⟩ = some (.int .i64 v.n) ∧ w'.cell? ⟨VB, 2, none⟩ = some (.float .f64 v.f) ∧ w'.cell? ⟨VB, 3, none⟩ = some (.string v.s) ∧ w'.cell? ⟨VB, 4, none⟩ = some (.int .i64 v.r)) (first | (with_reducible exact HC4.out.s4) | (with_reducible exact HC4.out.drew.s4) | (with_reducible exact (HS5.out _ rfl).c)) (fail)
    go_end0
    exact ⟨rfl, by rw [if_neg hv]; exact ⟨_, HV.x⟩, HV.b⟩
end Go.Proofs.Ytiidepafifodjaa
