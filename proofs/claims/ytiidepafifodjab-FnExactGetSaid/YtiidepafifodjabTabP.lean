import Derived.Test.YtiidepafifodjabTabO
/-! Tables: impl's get. -/
namespace Go.Proofs.Ytiidepafifodjab
open Go.RowKit
attribute [local go_sem] run_store_float
attribute [local go_sem ↓] Go.wp_at_zero Go.wp_at_succ

/-- what the loads of get read, and what it stands on -/
structure GetS (w : World) (X : Nat) (a : Option Addr) (n cap B : Nat) (t : Int) (q : Nat → PD) (y : VD) (w' : World) : Prop where
  x : XBox w' X a n cap B t q
  lt : w.heap.size < w'.heap.size
  k : ∀ j, w'.cell? ⟨w.heap.size, j, none⟩ = (#[.int .i64 y.k, .int .i64 y.n, .float .f64 y.f, .string y.s, .int .i64 y.r] : Array Value)[j]?
  r : w.heap.size + 1 < w'.heap.size
  rc : ∀ j, j < 5 → ∃ v, w'.cell? ⟨w.heap.size + 1, j, none⟩ = some v
  rf : ∀ j, w'.frozen? ⟨w.heap.size + 1, j, none⟩ = false
  b : Below w.heap.size w w'
theorem GetS.call {w : World} {X : Nat} {a : Option Addr} {n cap B : Nat} {t : Int} {q : Nat → PD} {y : VD} {u v : World} (h : GetS w X a n cap B t q y u) (hb : Below u.heap.size u v) : GetS w X a n cap B t q y v :=
  ⟨h.x.call hb, Nat.lt_of_lt_of_le h.lt hb.size, fun j => (hb.cell (p := ⟨w.heap.size, j, none⟩) h.lt).trans (h.k j), Nat.lt_of_lt_of_le h.r hb.size, fun j hj => by
    obtain ⟨v, hv⟩ := h.rc j hj
    exact ⟨v, (hb.cell (p := ⟨w.heap.size + 1, j, none⟩) h.r).trans hv⟩, fun j => (hb.frozen (p := ⟨w.heap.size + 1, j, none⟩) h.r).trans (h.rf j), below_call h.b hb⟩
theorem GetS.drew {w : World} {X : Nat} {a : Option Addr} {n cap B : Nat} {t : Int} {q : Nat → PD} {y : VD} {u : World} (h : GetS w X a n cap B t q y u) : GetS w X a n cap B t q y u.drew := ⟨h.x.drew, h.lt, h.k, h.r, h.rc, h.rf, h.b.drew⟩
theorem GetS.alloc {w : World} {X : Nat} {a : Option Addr} {n cap B : Nat} {t : Int} {q : Nat → PD} {y : VD} {u : World} (h : GetS w X a n cap B t q y u) (o : Obj) : GetS w X a n cap B t q y (u.alloc o) := h.call (below_alloc u o)
theorem GetS.cells {w : World} {X : Nat} {a : Option Addr} {n cap B : Nat} {t : Int} {q : Nat → PD} {y : VD} {w' : World} (h : GetS w X a n cap B t q y w') : w'.cell? ⟨X, 0, none⟩ = some (.slice a n cap) ∧ w'.cell? ⟨X, 1, none⟩ = some (.map (some B)) ∧ w'.cell? ⟨w.heap.size, 0, none⟩ = some (.int .i64 y.k) ∧ w'.cell? ⟨w.heap.size, 1, none⟩ = some (.int .i64 y.n) ∧ w'.cell? ⟨w.heap.size, 2, none⟩ = some (.float .f64 y.f) ∧ w'.cell? ⟨w.heap.size, 3, none⟩ = some (.string y.s) ∧ w'.cell? ⟨w.heap.size, 4, none⟩ = some (.int .i64 y.r) :=
  ⟨h.x.c0, h.x.c1, h.k 0, h.k 1, h.k 2, h.k 3, h.k 4⟩
theorem GetS.new {w : World} {X : Nat} {a : Option Addr} {n cap B : Nat} {t : Int} {q : Nat → PD} (y : VD) (h : XBox w X a n cap B t q) : GetS w X a n cap B t q y ((w.alloc (.cells #[.int .i64 y.k, .int .i64 y.n, .float .f64 y.f, .string y.s, .int .i64 y.r] 26)).alloc (.cells #[.int .i64 0, .int .i64 0, .float .f64 0, .string ⟨#[]⟩, .int .i64 0] 26)) :=
  ⟨(h.alloc _).alloc _, by simp; omega, fun j => by rw [World.cell?_alloc_lt _ _ _ (by simp)]; exact World.cell?_alloc_new _ _ _ j, by simp, fun j hj => by
    have := World.cell?_alloc_new (w.alloc (.cells #[.int .i64 y.k, .int .i64 y.n, .float .f64 y.f, .string y.s, .int .i64 y.r] 26)) #[.int .i64 0, .int .i64 0, .float .f64 0, .string ⟨#[]⟩, .int .i64 0] 26 j
    simp only [World.size_alloc] at this
    rw [this]
    rcases (show j = 0 ∨ j = 1 ∨ j = 2 ∨ j = 3 ∨ j = 4 by omega) with rfl | rfl | rfl | rfl | rfl <;> exact ⟨_, rfl⟩, fun j => by simp, below_alloc2 _ _ _⟩

abbrev gw (w : World) (y : VD) : World := ((w.alloc (.cells #[.int .i64 y.k, .int .i64 y.n, .float .f64 y.f, .string y.s, .int .i64 y.r] 26)).alloc (.cells #[.int .i64 0, .int .i64 0, .float .f64 0, .string ⟨#[]⟩, .int .i64 0] 26))
theorem st11 {B blk : Nat} {a w : World} (h : Below B a w) (hp : B ≤ blk) (v0 v1 v2 v3 v4 v5 v6 v7 v8 v9 v10 : Value) :
    Below B a (((((((((((w.setCell ⟨blk, 0, none⟩ v0).setCell ⟨blk, 1, none⟩ v1).setCell ⟨blk, 2, none⟩ v2).setCell ⟨blk, 3, none⟩ v3).setCell ⟨blk, 4, none⟩ v4).setCell ⟨blk, 5, none⟩ v5).setCell ⟨blk, 6, none⟩ v6).setCell ⟨blk, 7, none⟩ v7).setCell ⟨blk, 8, none⟩ v8).setCell ⟨blk, 9, none⟩ v9).setCell ⟨blk, 10, none⟩ v10) :=
  st1 (st1 (st1 (st1 (st1 (st1 (st1 (st1 (st1 (st1 (st1 h hp v0) hp v1) hp v2) hp v3) hp v4) hp v5) hp v6) hp v7) hp v8) hp v9) hp v10

set_option maxRecDepth 100000 in
set_option maxHeartbeats 8000000 in
theorem get_calls (X : Nat) (a : Option Addr) (n cap B : Nat) (t : Int) (q : Nat → PD) (y : VD) (w : World) (hok : TabOk n t q) (hX : XBox w X a n cap B t q) :
    Calls Try.prog 50 #[.pointer (some ⟨X, 0, none⟩), y.v] w fun e w' => e = .returned (gt q (mk y) n).val.v ∧ Below w.heap.size w w' := by
  have hS : GetS w X a n cap B t q y ((w.alloc (.cells #[.int .i64 y.k, .int .i64 y.n, .float .f64 y.f, .string y.s, .int .i64 y.r] 26)).alloc (.cells #[.int .i64 0, .int .i64 0, .float .f64 0, .string ⟨#[]⟩, .int .i64 0] 26)) := GetS.new y hX
  have hL : Hid (∀ w a B, Tab w a n q → MapIs w B (places q n) → Calls Try.prog 78 #[.slice a n cap, .map (some B), mkV (mk y)] w fun e w' => e = .returned (.tuple #[pOf (gt q (mk y) n), .bool (fnd q (mk y) n).isSome]) ∧ Below w.heap.size w w') := fun w a B h1 h2 => lookup_calls a n cap B t q (mk y) w hok h1 h2
  generalize gt q (mk y) n = p at hL ⊢
  generalize (fnd q (mk y) n).isSome = ob at hL
  have hM : Hid (∀ w, Calls Try.prog 79 #[y.v] w fun e w' => e = .returned (mkV (mk y)) ∧ Below w.heap.size w w') := fun w => markOf_calls y w
  generalize mk y = m at hL hM
  clear hok hX
  have HS : Hid (GetS w X a n cap B t q y (gw w y)) := hS
  have Hb : Hid (Below (gw w y).heap.size (gw w y) (gw w y)) := Below.refl _ _
  clear hS
  go_enter Try.func50, Try.ntmps50
  go_wp2_with fail
  go_region_held3 (fun w' => w'.cell? ⟨X, 0, none⟩ = some (.slice a n cap) ∧ w'.cell? ⟨X, 1, none⟩ = some (.map (some B)) ∧ w'.cell? ⟨w.heap.size, 0, none⟩ = some (.int .i64 y.k) ∧ w'.cell? ⟨w.heap.size, 1, none⟩ = some (.int .i64 y.n) ∧ w'.cell? ⟨w.heap.size, 2, none⟩ = some (.float .f64 y.f) ∧ w'.cell? ⟨w.heap.size, 3, none⟩ = some (.string y.s) ∧ w'.cell? ⟨w.heap.size, 4, none⟩ = some (.int .i64 y.r)) (first | (with_reducible exact (HS.out.call Hb.out).cells) | (with_reducible exact (HS.out.call Hb.out.drew).cells) | (with_reducible exact (HS.out.call (below_a Hb.out _)).cells) | (with_reducible exact (HS.out.call (below_a Hb.out _).drew).cells) | (with_reducible exact (HS.out.call (below_a Hb.out.drew _)).cells) | (with_reducible exact (HS.out.call (st11 Hb.out (by first | exact Nat.le_refl _ | (simp; omega) | simp) _ _ _ _ _ _ _ _ _ _ _)).cells) | (with_reducible exact (HS.out.call (st11 Hb.out (by first | exact Nat.le_refl _ | (simp; omega) | simp) _ _ _ _ _ _ _ _ _ _ _).drew).cells)) (first | (go_at_call 79; refine (hM.out _).mono ?_; rintro e w2 ⟨rfl, hb2⟩; obtain ⟨hc2, hf2⟩ := bcell hb2; have hz2 := hb2.size; (try simp at hz2); (try have hy2 := Nat.lt_of_succ_le hz2); replace Hb : Hid (Below (gw w y).heap.size (gw w y) w2) := (by first | exact below_call Hb.out hb2 | exact below_call Hb.out.drew hb2 | exact below_call (below_a Hb.out _) hb2 | exact below_call (below_a Hb.out _).drew hb2 | exact below_call (below_a Hb.out.drew _) hb2); clear hb2) | (go_at_call 78; refine (hL.out _ a B (by first | exact (HS.out.call Hb.out).x.tab | exact (HS.out.call Hb.out.drew).x.tab | exact (HS.out.call (below_a Hb.out _)).x.tab | exact (HS.out.call (below_a Hb.out _).drew).x.tab | exact (HS.out.call (below_a Hb.out.drew _)).x.tab) (by first | exact (HS.out.call Hb.out).x.map | exact (HS.out.call Hb.out.drew).x.map | exact (HS.out.call (below_a Hb.out _)).x.map | exact (HS.out.call (below_a Hb.out _).drew).x.map | exact (HS.out.call (below_a Hb.out.drew _)).x.map)).mono ?_; rintro e w3 ⟨rfl, hb3⟩; obtain ⟨hc3, hf3⟩ := bcell hb3; have hz3 := hb3.size; (try simp at hz3); (try have hy3 := Nat.lt_of_succ_le hz3); replace Hb : Hid (Below (gw w y).heap.size (gw w y) w3) := (by first | exact below_call Hb.out hb3 | exact below_call Hb.out.drew hb3 | exact below_call (below_a Hb.out _) hb3 | exact below_call (below_a Hb.out _).drew hb3 | exact below_call (below_a Hb.out.drew _) hb3); clear hb3))
  all_goals have G := HS.out.call Hb.out
  all_goals obtain ⟨v0, r0⟩ := G.rc 0 (by omega)
  all_goals obtain ⟨v1, r1⟩ := G.rc 1 (by omega)
  all_goals obtain ⟨v2, r2⟩ := G.rc 2 (by omega)
  all_goals obtain ⟨v3, r3⟩ := G.rc 3 (by omega)
  all_goals obtain ⟨v4, r4⟩ := G.rc 4 (by omega)
  all_goals have rf := G.rf
  all_goals have rr := G.r
  all_goals have GB : Hid (Below w.heap.size w w3) := G.b
  all_goals clear G HS Hb
  all_goals try have n1 : w.heap.size + 1 ≠ w2.heap.size := by omega
  all_goals try have n2 : w2.heap.size ≠ w.heap.size + 1 := by omega
  all_goals try have n3 : w.heap.size + 1 ≠ w3.heap.size := by omega
  all_goals try have n4 : w3.heap.size ≠ w.heap.size + 1 := by omega
  all_goals have p1 : w.heap.size ≤ w.heap.size + 1 := Nat.le_add_right _ _
  all_goals go_wp2_with fail
  · exact bodyPost_ret (v := p.val.v) (by simp [results, Try.results50, go_sem, r0, r1, r2, r3, r4, rr]) rfl ⟨rfl, below_a (set5 GB.out p1 _ _ _ _ _) _⟩
  · exact bodyPost_ret (v := p.val.v) (by simp [results, Try.results50, go_sem, r0, r1, r2, r3, r4]) rfl ⟨rfl, set5 (st11 GB.out (by omega) _ _ _ _ _ _ _ _ _ _ _) p1 _ _ _ _ _⟩
  · exact bodyPost_ret (v := p.val.v) (by simp [results, Try.results50, go_sem, r0, r1, r2, r3, r4]) rfl ⟨rfl, set5 (st11 GB.out (by omega) _ _ _ _ _ _ _ _ _ _ _) p1 _ _ _ _ _⟩
end Go.Proofs.Ytiidepafifodjab
