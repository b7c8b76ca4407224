import Derived.Test.YtdialodjllpgaaaGreatDoorBdI
import Derived.Test.YtdialodjllpgaaaGreatDoorSkI
/-! The program makes closures of nodes: the text. -/
namespace Go.Proofs.YtdialodjllpgaaaGreatDoor
open Go.RowKit
attribute [local go_sem] run_store_float
attribute [local go_sem ↓] Go.wp_at_zero Go.wp_at_succ
attribute [local go_sem] run_store_fn

section
variable {w w0 u u' : World} {M bb C : Nat} {d : FD} {A : Array Value} {P : PX} {L : LX}
theorem CsN.call (h : CsN w M bb d A P L u) (hb : Below u.heap.size u u') : CsN w M bb d A P L u' := ⟨h.e.call hb, h.c1.call hb, h.c2.call hb, h.on.call hb, h.c3.call hb, h.c4.call hb⟩
theorem CsN.old (h : CsN w M bb d A P L u) (hb : w0.heap.size ≤ w.heap.size) : CsN w0 M bb d A P L u := ⟨h.e.old hb, h.c1.old hb, h.c2.old hb, h.on.old hb, h.c3.old hb, h.c4.old hb⟩
theorem CsN.gx (h : CsN w M bb d A P L u) (hC : C < w.heap.size) (g : Gx (fun k => k = C) u u') : CsN w M bb d A P L u' := ⟨h.e.gx hC g, h.c1.gx (Nat.le_refl _) hC g, h.c2.gx (Nat.le_refl _) hC g, h.on.gx hC g, h.c3.gx (Nat.le_refl _) hC g, h.c4.gx (Nat.le_refl _) hC g⟩
end
set_option maxRecDepth 100000 in
set_option maxHeartbeats 8000000 in
theorem actionFor_calls (M bb : Nat) (d : FD) (x : FA) (q : ND) (y : NA) (t s n i j : Nat) (w : World) (h : BB M bb d x w) (hq : CtN d x q y w t s n i j) :
    Calls Tryz.prog 142 #[ptr bb, nodeV q y] w fun e w' => ∃ (P : PX) (L : LX), e = .returned (cntV L.c1 L.c2 L.c3 L.c4) ∧ CsN w M bb d (nodeC (d.nd s) (x.nas s)) P L w' ∧ L.nA = nodeC q y ∧ Below w.heap.size w w' := by
  have ha := fun W (hW : Below w.heap.size w W) => countB_calls M bb d x q y t s n i j W (h.call hW) ⟨hq.k, hq.kn, hq.cap, RowN.below hq.c hW, hq.cj, hq.c3, hq.b⟩
  simp only [nodeV, hq.k] at ha
  have HA : Hid _ := ha
  show Calls Tryz.prog 142 #[ptr bb, .agg #[.int .i64 q.k, .int .i64 q.l, .int .i64 q.o, .int .i64 q.n, .float .f64 q.f, .string q.s, .slice y.ra q.rn y.rc, .slice y.ka q.kn y.kc]] w fun e w' => ∃ (P : PX) (L : LX), e = .returned (cntV L.c1 L.c2 L.c3 L.c4) ∧ CsN w M bb d (nodeC (d.nd s) (x.nas s)) P L w' ∧ L.nA = nodeC q y ∧ Below w.heap.size w w'
  have HK : Hid (q.k = 7) := hq.k
  obtain ⟨nA, hnA⟩ : ∃ nA, nodeC q y = nA := ⟨_, rfl⟩
  rw [hnA] at HA ⊢
  clear hnA
  rw [HK.out]
  clear h hq ha
  go_enter Tryz.func142, Tryz.ntmps142
  go_wp2_with fail
  refine (HA.out _ (below_alloc2 _ _ _)).mono ?_
  rintro e w1 ⟨P, L, rfl, hP, hL, hb⟩
  have HQ : Hid (CsN w M bb d (nodeC (d.nd s) (x.nas s)) P L w1 ∧ L.nA = nA ∧ Below w.heap.size w w1) := ⟨hP.old (by simp; omega), hL, below_call (below_alloc2 _ _ _) hb⟩
  clear hP hL hb HA
  go_wp2_with fail
  go_ret
  exact ⟨P, L, rfl, HQ.out⟩

/-- the statement that is a counted loop, as closures -/
structure FsN (w : World) (M bb : Nat) (d : FD) (A A8 : Array Value) (P : PX) (L : LX) (s1 s2 s3 : Nat) (u : World) : Prop where
  c : CsN w M bb d A P L u
  nA : L.nA = A8
  s1 : Nw w u s1 #[ptr bb]
  s2 : Nw w u s2 A8
  s3 : Nw w u s3 #[cntV L.c1 L.c2 L.c3 L.c4]
set_option maxRecDepth 100000 in
set_option maxHeartbeats 8000000 in
theorem stmtFor_calls (M bb : Nat) (d : FD) (x : FA) (m t s n i j : Nat) (w : World) (h : BB M bb d x w) (hm : m < d.nn) (hq : CtN d x (d.nd m) (x.nas m) w t s n i j) :
    Calls Tryz.prog 82 #[ptr bb, .int .i64 (m : Int)] w fun e w' => ∃ P L s1 s2 s3, e = .returned (stV s1 s2 s3) ∧ FsN w M bb d (nodeC (d.nd s) (x.nas s)) (nodeC (d.nd m) (x.nas m)) P L s1 s2 s3 w' ∧ Below w.heap.size w w' := by
  have b1 := h.b.cell 1 rfl
  have hbl := h.b.1
  obtain ⟨b, off, e1, hb, c0, c1, c2, c3, c4, c5, c6, c7⟩ := h.node hm
  rw [e1] at b1
  have ha := fun W (hW : Below w.heap.size w W) => actionFor_calls M bb d x (d.nd m) (x.nas m) t s n i j W (h.call hW) ⟨hq.k, hq.kn, hq.cap, RowN.below hq.c hW, hq.cj, hq.c3, hq.b⟩
  simp only [nodeV, hq.k] at ha
  have HA : Hid _ := ha
  have HK : Hid ((d.nd m).k = 7) := hq.k
  rw [hq.k] at c0
  clear h hq ha
  have hmf := mkFunc'
  go_enter Tryz.func82, Tryz.ntmps82
  go_wp2_with fail
  refine (HA.out _ (below_alloc2 _ _ _)).mono ?_
  rintro e w1 ⟨P, L, rfl, hP, hL, hb9⟩
  have HW : Hid (CsN w M bb d (nodeC (d.nd s) (x.nas s)) P L w1 ∧ L.nA = nodeC (d.nd m) (x.nas m) ∧ Nw w w1 w.heap.size #[ptr bb] ∧ Nw w w1 (w.heap.size + 1) (nodeC (d.nd m) (x.nas m)) ∧ Below w.heap.size w w1) := by
    refine ⟨hP.old (by simp; omega), hL, ⟨Nat.le_refl _, ((Has.new _ _ _).alloc _).call hb9⟩, ⟨by omega, ?_⟩, below_call (below_alloc2 _ _ _) hb9⟩
    unfold nodeC
    rw [HK.out]
    exact (has_new1 _ _ _ _).call hb9
  clear hP hL hb9 b1 hbl c0 c1 c2 c3 c4 c5 c6 c7 HA
  go_wp2_with fail
  go_ret
  obtain ⟨h1, h2, h3, h4, h5⟩ := HW.out
  exact ⟨P, L, w.heap.size, w.heap.size + 1, w1.heap.size, rfl, ⟨h1.call (below_alloc _ _), h2, h3.call (below_alloc _ _), h4.call (below_alloc _ _), ⟨h5.size, Has.new _ _ _⟩⟩, h5.alloc h5.size _⟩

/-- the text, as closures -/
structure TsN (w : World) (M bb : Nat) (d : FD) (A A8 : Array Value) (P : PX) (L : LX) (Z : MX) (u : World) : Prop where
  c : CsN w M bb d A P L u
  nA : L.nA = A8
  s1 : Nw w u Z.s1 #[ptr bb]
  s2 : Nw w u Z.s2 A8
  s3 : Nw w u Z.s3 #[cntV L.c1 L.c2 L.c3 L.c4]
  k1 : Nw w u Z.k1 #[.slice (some ⟨Z.ka, 0, none⟩) 1 Z.kc]
  ka : w.heap.size ≤ Z.ka
  kl : Z.ka < u.heap.size
  kv : u.cell? ⟨Z.ka, 0, none⟩ = some (stV Z.s1 Z.s2 Z.s3)
theorem TsN.old {w w0 u : World} {M bb : Nat} {d : FD} {A A8 : Array Value} {P : PX} {L : LX} {Z : MX} (h : TsN w M bb d A A8 P L Z u) (hb : w0.heap.size ≤ w.heap.size) : TsN w0 M bb d A A8 P L Z u := ⟨h.c.old hb, h.nA, h.s1.old hb, h.s2.old hb, h.s3.old hb, h.k1.old hb, Nat.le_trans hb h.ka, h.kl, h.kv⟩
/-- the text, as nodes: t the block's body, r the text's block -/
structure TxN (d : FD) (x : FA) (w : World) (r m t s n i j : Nat) : Prop where
  nn : d.nn = r + 1
  rk : (d.nd r).k = 1
  rn : (d.nd r).kn = 1
  r0 : (d.nd r).c 0 = (m : Int)
  lm : m < d.nn
  q : CtN d x (d.nd m) (x.nas m) w t s n i j
theorem TxN.call {d : FD} {x : FA} {w u : World} {r m t s n i j : Nat} (h : TxN d x w r m t s n i j) (hW : Below w.heap.size w u) : TxN d x u r m t s n i j := ⟨h.nn, h.rk, h.rn, h.r0, h.lm, ⟨h.q.k, h.q.kn, h.q.cap, RowN.below h.q.c hW, h.q.cj, h.q.c3, h.q.b⟩⟩
theorem stmtText_calls (M bb : Nat) (d : FD) (x : FA) (r m t s n i j : Nat) (w : World) (h : BB M bb d x w) (hp : TxN d x w r m t s n i j) :
    Calls Tryz.prog 82 #[ptr bb, .int .i64 (r : Int)] w fun e w' => ∃ P L Z, e = .returned (bkV Z.k1) ∧ TsN w M bb d (nodeC (d.nd s) (x.nas s)) (nodeC (d.nd m) (x.nas m)) P L Z w' ∧ Below w.heap.size w w' := by
  have hr : r < d.nn := by have := hp.nn; omega
  refine (stmtBlock_calls M bb d x r w (fun W k1 u => ∃ P L Z, Z.k1 = k1 ∧ TsN W M bb d (nodeC (d.nd s) (x.nas s)) (nodeC (d.nd m) (x.nas m)) P L Z u ∧ Below W.heap.size W u) h hr hp.rk ?_).mono ?_
  · intro W hW
    refine (blockOne_calls M bb d x (d.nd r) (x.nas r) m W (fun u v u' => ∃ P L s1 s2 s3, v = stV s1 s2 s3 ∧ FsN u M bb d (nodeC (d.nd s) (x.nas s)) (nodeC (d.nd m) (x.nas m)) P L s1 s2 s3 u') (h.call hW) hp.lm (by rw [hp.q.k]; decide) hp.rn (RowN.below (h.n.2 r hr).2 hW) hp.r0 ?_).mono ?_
    · intro u hu
      refine (stmtFor_calls M bb d x m t s n i j u ((h.call hW).call hu) hp.lm ((hp.call hW).call hu).q).mono ?_
      rintro e u' ⟨P, L, s1, s2, s3, rfl, hP, hb⟩
      exact ⟨_, _, rfl, hb, P, L, s1, s2, s3, rfl, hP⟩
    · rintro e u' ⟨v, k1, ka, kc, u0, u1, rfl, hb0, ⟨P, L, s1, s2, s3, rfl, hP⟩, hB⟩
      exact ⟨k1, rfl, P, L, ⟨s1, s2, s3, #[], 0, k1, ka, kc, 0, 0⟩, rfl, ⟨(hP.c.gx hB.b hB.g).old hb0.size, hP.nA, hP.s1.gx hb0.size hB.b hB.g, hP.s2.gx hb0.size hB.b hB.g, hP.s3.gx hb0.size hB.b hB.g, ⟨hB.a, hB.h⟩, hB.kg, hB.kl, hB.kv⟩, hB.k⟩
  · rintro e u' ⟨W, k1, rfl, hW, P, L, Z, rfl, hP, hb⟩
    exact ⟨P, L, Z, rfl, hP.old hW.size, below_call hW hb⟩
set_option maxRecDepth 100000 in
set_option maxHeartbeats 8000000 in
theorem bodyB_calls (M bb : Nat) (d : FD) (x : FA) (m t s n i j : Nat) (w : World) (h : BB M bb d x w) (hp : TxN d x w 9 m t s n i j) :
    Calls Tryz.prog 44 #[ptr bb] w fun e w' => ∃ P L Z, e = .returned (bkV Z.k1) ∧ TsN w M bb d (nodeC (d.nd s) (x.nas s)) (nodeC (d.nd m) (x.nas m)) P L Z w' ∧ Below w.heap.size w w' := by
  have hS := stmtText_calls M bb d x 9 m t s n i j w h hp
  rw [show ((9 : Nat) : Int) = 9 from rfl] at hS
  have HS : Hid _ := hS
  clear hS
  have b1 := h.b.cell 1 rfl
  rw [show d.nn = 10 from hp.nn] at b1
  have hbl := h.b.1
  clear h hp
  go_enter Tryz.func44, Tryz.ntmps44
  go_wp2_with fail
  refine Calls.mono HS.out ?_
  rintro e w1 ⟨P, L, Z, rfl, hT⟩
  have HT : Hid _ := hT
  clear hT HS b1 hbl
  go_wp2_with fail
  go_ret
  exact ⟨P, L, Z, rfl, HT.out⟩
end Go.Proofs.YtdialodjllpgaaaGreatDoor

/-! The program's scopes: all nodes; a new visitor. -/
namespace Go.Proofs.YtdialodjllpgaaaGreatDoor
open Go.RowKit
attribute [local go_sem] run_store_float
attribute [local go_sem ↓] Go.wp_at_zero Go.wp_at_succ

theorem sf_kids (k : Nat) (hk : k < 39) (h : k ≠ 1 ∧ k ≠ 2 ∧ k ≠ 6 ∧ k ≠ 7 ∧ k ≠ 8 ∧ k ≠ 9 ∧ k ≠ 10 ∧ k ≠ 12 ∧ k ≠ 26 ∧ k ≠ 27 ∧ k ≠ 36 ∧ k ≠ 37) : sfN k = 126 := by
  rcases (show k = 0 ∨ k = 1 ∨ k = 2 ∨ k = 3 ∨ k = 4 ∨ k = 5 ∨ k = 6 ∨ k = 7 ∨ k = 8 ∨ k = 9 ∨ k = 10 ∨ k = 11 ∨ k = 12 ∨ k = 13 ∨ k = 14 ∨ k = 15 ∨ k = 16 ∨ k = 17 ∨ k = 18 ∨ k = 19 ∨ k = 20 ∨ k = 21 ∨ k = 22 ∨ k = 23 ∨ k = 24 ∨ k = 25 ∨ k = 26 ∨ k = 27 ∨ k = 28 ∨ k = 29 ∨ k = 30 ∨ k = 31 ∨ k = 32 ∨ k = 33 ∨ k = 34 ∨ k = 35 ∨ k = 36 ∨ k = 37 ∨ k = 38 by omega) with rfl | rfl | rfl | rfl | rfl | rfl | rfl | rfl | rfl | rfl | rfl | rfl | rfl | rfl | rfl | rfl | rfl | rfl | rfl | rfl | rfl | rfl | rfl | rfl | rfl | rfl | rfl | rfl | rfl | rfl | rfl | rfl | rfl | rfl | rfl | rfl | rfl | rfl | rfl <;> first | rfl | omega
theorem visit_all (C : CX) (hC : C.ok) : ∀ n, n < C.d.nn → VisSays C n := by
  intro n
  induction n using Nat.strongRecOn with
  | ind n ih =>
    intro hn
    have ih' : ∀ m, m < n → VisSays C m := fun m hm => ih m hm (by omega)
    refine visit_of C hC n ?_
    have hsh := (hC.node hn).kind
    by_cases k1 : (C.d.nd n).k = 1
    · rw [k1]; exact block_step C hC n ih' k1
    by_cases k2 : (C.d.nd n).k = 2
    · rw [k2]; exact let_step C hC n ih' k2
    by_cases k6 : (C.d.nd n).k = 6
    · rw [k6]; exact loop_step C hC n ih' (by omega)
    by_cases k7 : (C.d.nd n).k = 7
    · rw [k7]; exact loop_step C hC n ih' (by omega)
    by_cases k8 : (C.d.nd n).k = 8
    · rw [k8]; exact loop_step C hC n ih' (by omega)
    by_cases k12 : (C.d.nd n).k = 12
    · rw [k12]; exact try_step C hC n ih' k12
    by_cases k9 : (C.d.nd n).k = 9
    · rw [k9]; exact jump_step C hC n (by omega)
    by_cases k10 : (C.d.nd n).k = 10
    · rw [k10]; exact jump_step C hC n (by omega)
    by_cases k26 : (C.d.nd n).k = 26
    · rw [k26]; exact variable_step C hC n k26
    by_cases k27 : (C.d.nd n).k = 27
    · rw [k27]; exact up_step C hC n k27
    by_cases k36 : (C.d.nd n).k = 36
    · rw [k36]; exact makes_step C hC n k36
    by_cases k37 : (C.d.nd n).k = 37
    · rw [k37]; exact rest_step C hC n k37
    rw [sf_kids (C.d.nd n).k.toNat (by omega) (by omega)]
    exact kids_step C hC n hn ih' ⟨k1, k2, k6, k7, k8, k12, k9, k10, k26, k27, k36, k37⟩

/-- the visitor's cells, its steps not all there yet -/
abbrev scB (K : Nat → Value) (T : Nat) (u : UD) (f : Nat) (ua : Option Addr) (uc : Nat) (fa : FA) : Array Value := #[.slice ua u.n uc, .int .i64 (f : Int), .string (u.fn f).name, .int .i64 (u.fn f).line, .int .i64 (u.fn f).params, .bool (u.fn f).rest, .slice fa.va (u.fn f).vn fa.vc, .slice fa.ua (u.fn f).un fa.uc, .slice fa.na (u.fn f).nn fa.nc, K 0, K 1, K 2, K 3, K 4, K 5, K 6, K 7, K 8, K 9, K 10, K 11, K 12, K 13, K 14, K 15, K 16, K 17, K 18, K 19, K 20, K 21, K 22, K 23, K 24, K 25, K 26, K 27, K 28, K 29, K 30, K 31, K 32, K 33, K 34, K 35, K 36, K 37, K 38, .slice none 0 0, .slice (some ⟨T, 0, none⟩) (u.fn f).vn (u.fn f).vn, .int .i64 0, .int .i64 0, .int .i64 0, .int .i64 0]
theorem scB_set (K : Nat → Value) (T : Nat) (u : UD) (f : Nat) (ua : Option Addr) (uc : Nat) (fa : FA) (k : Nat) (hk : k < 39) (v : Value) : (scB K T u f ua uc fa).setIfInBounds (9 + k) v = scB (fun j => if j = k then v else K j) T u f ua uc fa := by
  rcases (show k = 0 ∨ k = 1 ∨ k = 2 ∨ k = 3 ∨ k = 4 ∨ k = 5 ∨ k = 6 ∨ k = 7 ∨ k = 8 ∨ k = 9 ∨ k = 10 ∨ k = 11 ∨ k = 12 ∨ k = 13 ∨ k = 14 ∨ k = 15 ∨ k = 16 ∨ k = 17 ∨ k = 18 ∨ k = 19 ∨ k = 20 ∨ k = 21 ∨ k = 22 ∨ k = 23 ∨ k = 24 ∨ k = 25 ∨ k = 26 ∨ k = 27 ∨ k = 28 ∨ k = 29 ∨ k = 30 ∨ k = 31 ∨ k = 32 ∨ k = 33 ∨ k = 34 ∨ k = 35 ∨ k = 36 ∨ k = 37 ∨ k = 38 by omega) with rfl | rfl | rfl | rfl | rfl | rfl | rfl | rfl | rfl | rfl | rfl | rfl | rfl | rfl | rfl | rfl | rfl | rfl | rfl | rfl | rfl | rfl | rfl | rfl | rfl | rfl | rfl | rfl | rfl | rfl | rfl | rfl | rfl | rfl | rfl | rfl | rfl | rfl | rfl <;> rfl
theorem scB_at (K : Nat → Value) (T : Nat) (u : UD) (f : Nat) (ua : Option Addr) (uc : Nat) (fa : FA) (k : Nat) (hk : k < 39) : (scB K T u f ua uc fa)[9 + k]? = some (K k) := by
  rcases (show k = 0 ∨ k = 1 ∨ k = 2 ∨ k = 3 ∨ k = 4 ∨ k = 5 ∨ k = 6 ∨ k = 7 ∨ k = 8 ∨ k = 9 ∨ k = 10 ∨ k = 11 ∨ k = 12 ∨ k = 13 ∨ k = 14 ∨ k = 15 ∨ k = 16 ∨ k = 17 ∨ k = 18 ∨ k = 19 ∨ k = 20 ∨ k = 21 ∨ k = 22 ∨ k = 23 ∨ k = 24 ∨ k = 25 ∨ k = 26 ∨ k = 27 ∨ k = 28 ∨ k = 29 ∨ k = 30 ∨ k = 31 ∨ k = 32 ∨ k = 33 ∨ k = 34 ∨ k = 35 ∨ k = 36 ∨ k = 37 ∨ k = 38 by omega) with rfl | rfl | rfl | rfl | rfl | rfl | rfl | rfl | rfl | rfl | rfl | rfl | rfl | rfl | rfl | rfl | rfl | rfl | rfl | rfl | rfl | rfl | rfl | rfl | rfl | rfl | rfl | rfl | rfl | rfl | rfl | rfl | rfl | rfl | rfl | rfl | rfl | rfl | rfl <;> rfl
theorem scB_congr {K K' : Nat → Value} (h : ∀ j, j < 39 → K j = K' j) (T : Nat) (u : UD) (f : Nat) (ua : Option Addr) (uc : Nat) (fa : FA) : scB K T u f ua uc fa = scB K' T u f ua uc fa := by
  unfold scB
  rw [h 0 (by omega), h 1 (by omega), h 2 (by omega), h 3 (by omega), h 4 (by omega), h 5 (by omega), h 6 (by omega), h 7 (by omega), h 8 (by omega), h 9 (by omega), h 10 (by omega), h 11 (by omega), h 12 (by omega), h 13 (by omega), h 14 (by omega), h 15 (by omega), h 16 (by omega), h 17 (by omega), h 18 (by omega), h 19 (by omega), h 20 (by omega), h 21 (by omega), h 22 (by omega), h 23 (by omega), h 24 (by omega), h 25 (by omega), h 26 (by omega), h 27 (by omega), h 28 (by omega), h 29 (by omega), h 30 (by omega), h 31 (by omega), h 32 (by omega), h 33 (by omega), h 34 (by omega), h 35 (by omega), h 36 (by omega), h 37 (by omega), h 38 (by omega)]
/-- the methods that are there behind k rounds -/
def mvK (S k : Nat) : Nat → Value := fun j => if j < k then mvS S 126 else .nilFunc
theorem mvK_succ (S k : Nat) (j : Nat) : (if j = k then mvS S 126 else mvK S k j) = mvK S (k + 1) j := by
  unfold mvK
  by_cases e : j = k
  · rw [if_pos e, if_pos (by omega)]
  · rw [if_neg e]
    by_cases c : j < k
    · rw [if_pos c, if_pos (by omega)]
    · rw [if_neg c, if_neg (by omega)]

end Go.Proofs.YtdialodjllpgaaaGreatDoor
