import Derived.Test.YtiidepafifodjaaTabR
import Derived.Test.YtiidepafifodjaaMarkC
import Derived.Test.YtiidepafifodjaaTabLaw
import Derived.Test.YtiidepafifodjaaTabO
/-! FnExactPut: what the walk stands on. -/
namespace Go.Proofs.Ytiidepafifodjaa
open Go.RowKit

theorem PutSays.one {n : Nat} {t : Int} {q : Nat → PD} {x v : VD} {D E : TD} (h : PutSays n t q x v D) (k : PutSays n t q x v E) : D = E := by
  rcases h with ⟨h1, h2, h3, h4⟩ | ⟨h1, h2⟩ <;> rcases k with ⟨k1, k2, k3, k4⟩ | ⟨k1, k2⟩
  · rw [h4, k4]
  · exact absurd ⟨h1, h2, h3⟩ k1
  · exact absurd ⟨k1, k2, k3⟩ h1
  · rw [h2, k2]
theorem PutSays.wf {n : Nat} {t : Int} {q : Nat → PD} {x v : VD} {D : TD} (h : PutSays n t q x v D) (hq : ∀ i, i < n → (q i).wf) (xf : x.f < 2 ^ 64) (xs : x.s.size ≤ maxLen) (vf : v.f < 2 ^ 64) (vs : v.s.size ≤ maxLen) : D.n ≤ 501 ∧ ∀ i, i < D.n → (D.q i).wf := by
  rcases h with ⟨hok, hc, hv, rfl⟩ | ⟨_, rfl⟩
  · have t0 := hok.t0
    have t1 := hok.t1
    have nn := hok.nn
    unfold putD
    cases hf : fnd q (mk (kv x)) n with
    | some i =>
      have hi := (fnd_at hf).1
      simp only
      split
      · refine ⟨by show n - 1 ≤ 501; omega, fun j hj => ?_⟩
        have hj' : j < n - 1 := hj
        show (rmv q i j).wf
        unfold rmv
        split
        · exact hq j (by omega)
        · exact hq (j + 1) (by omega)
      · refine ⟨by show n ≤ 501; omega, fun j hj => ?_⟩
        have hj' : j < n := hj
        show (setV q i v j).wf
        unfold setV
        split
        · have h := hq i hi
          exact ⟨h.s1, vs, h.f1, vf, h.t1, h.t2⟩
        · exact hq j hj'
    | none =>
      simp only
      split
      · exact ⟨by show n ≤ 501; omega, hq⟩
      · split
        · rename_i hh
          refine ⟨by show n + 1 ≤ 501; omega, fun j hj => ?_⟩
          have hj' : j < n + 1 := hj
          show (addP q n ⟨kv x, v, t + 1⟩ j).wf
          unfold addP
          split
          · exact ⟨kv_s xs, vs, kv_f xf, vf, by show _ ≤ t + 1; omega, by show t + 1 ≤ _; omega⟩
          · exact hq j (by omega)
        · exact ⟨by show n ≤ 501; omega, hq⟩
  · exact ⟨Nat.zero_le _, fun i hi => absurd hi (Nat.not_lt_zero i)⟩

abbrev gl3 (w : World) (a : Option Addr) (n cap : Nat) (t : Int) (x v : VD) : World := ((w.alloc (.cells #[.slice a n cap, .int .i64 t] 53)).alloc (.cells #[.int .i64 x.k, .int .i64 x.n, .float .f64 x.f, .string x.s, .int .i64 x.r] 54)).alloc (.cells #[.int .i64 v.k, .int .i64 v.n, .float .f64 v.f, .string v.s, .int .i64 v.r] 54)
structure G3 (w : World) (a : Option Addr) (n cap : Nat) (t : Int) (x v : VD) (w' : World) : Prop where
  c : w'.cell? ⟨w.heap.size, 0, none⟩ = some (.slice a n cap) ∧ w'.cell? ⟨w.heap.size, 1, none⟩ = some (.int .i64 t) ∧ w'.cell? ⟨w.heap.size + 1, 0, none⟩ = some (.int .i64 x.k) ∧ w'.cell? ⟨w.heap.size + 1, 1, none⟩ = some (.int .i64 x.n) ∧ w'.cell? ⟨w.heap.size + 1, 2, none⟩ = some (.float .f64 x.f) ∧ w'.cell? ⟨w.heap.size + 1, 3, none⟩ = some (.string x.s) ∧ w'.cell? ⟨w.heap.size + 1, 4, none⟩ = some (.int .i64 x.r) ∧ w'.cell? ⟨w.heap.size + 1 + 1, 0, none⟩ = some (.int .i64 v.k) ∧ w'.cell? ⟨w.heap.size + 1 + 1, 1, none⟩ = some (.int .i64 v.n) ∧ w'.cell? ⟨w.heap.size + 1 + 1, 2, none⟩ = some (.float .f64 v.f) ∧ w'.cell? ⟨w.heap.size + 1 + 1, 3, none⟩ = some (.string v.s) ∧ w'.cell? ⟨w.heap.size + 1 + 1, 4, none⟩ = some (.int .i64 v.r)
theorem G3.of {w : World} {a : Option Addr} {n cap : Nat} {t : Int} {x v : VD} {w' : World} (h0 : Has w' w.heap.size #[.slice a n cap, .int .i64 t]) (h1 : Has w' (w.heap.size + 1) (vCs x)) (h2 : Has w' (w.heap.size + 1 + 1) (vCs v)) : G3 w a n cap t x v w' :=
  ⟨h0.at 0, h0.at 1, h1.at 0, h1.at 1, h1.at 2, h1.at 3, h1.at 4, h2.at 0, h2.at 1, h2.at 2, h2.at 3, h2.at 4⟩
theorem gl3_has (w : World) (a : Option Addr) (n cap : Nat) (t : Int) (x v : VD) : Has (gl3 w a n cap t x v) w.heap.size #[.slice a n cap, .int .i64 t] ∧ Has (gl3 w a n cap t x v) (w.heap.size + 1) (vCs x) ∧ Has (gl3 w a n cap t x v) (w.heap.size + 1 + 1) (vCs v) := by
  have h0 := ((Has.new w #[.slice a n cap, .int .i64 t] 53).alloc (.cells (vCs x) 54)).alloc (.cells (vCs v) 54)
  have h1 := (Has.new (w.alloc (.cells #[.slice a n cap, .int .i64 t] 53)) (vCs x) 54).alloc (.cells (vCs v) 54)
  have h2 := Has.new ((w.alloc (.cells #[.slice a n cap, .int .i64 t] 53)).alloc (.cells (vCs x) 54)) (vCs v) 54
  simp only [World.size_alloc] at h1 h2
  exact ⟨h0, h1, h2⟩
theorem gl3_cells {w : World} {a : Option Addr} {n cap : Nat} {t : Int} {x v : VD} {w' : World} (hB : Below (gl3 w a n cap t x v).heap.size (gl3 w a n cap t x v) w') : G3 w a n cap t x v w' := by
  obtain ⟨h0, h1, h2⟩ := gl3_has w a n cap t x v
  exact G3.of (h0.call hB) (h1.call hB) (h2.call hB)
theorem gl3_size (w : World) (a : Option Addr) (n cap : Nat) (t : Int) (x v : VD) : (gl3 w a n cap t x v).heap.size = w.heap.size + 1 + 1 + 1 := by simp

/-- a local of one's own, at or above N, made early -/
structure ZT (N : Nat) (w : World) (B : Nat) : Prop where
  lo : N ≤ B
  lt : B < w.heap.size
  c0 : ∃ v, w.cell? ⟨B, 0, none⟩ = some v
  c1 : ∃ v, w.cell? ⟨B, 1, none⟩ = some v
  c2 : ∀ o, w.cell? ⟨B, o + 2, none⟩ = none
  fr : ∀ o, w.frozen? ⟨B, o, none⟩ = false
theorem ZT.call {N : Nat} {u w : World} {B : Nat} (h : ZT N u B) (hb : Below u.heap.size u w) : ZT N w B :=
  ⟨h.lo, Nat.lt_of_lt_of_le h.lt hb.size, (by obtain ⟨v, hv⟩ := h.c0; exact ⟨v, (hb.cell (p := ⟨B, 0, none⟩) h.lt).trans hv⟩), (by obtain ⟨v, hv⟩ := h.c1; exact ⟨v, (hb.cell (p := ⟨B, 1, none⟩) h.lt).trans hv⟩), fun o => (hb.cell (p := ⟨B, o + 2, none⟩) h.lt).trans (h.c2 o), fun o => (hb.frozen (p := ⟨B, o, none⟩) h.lt).trans (h.fr o)⟩
theorem ZT.new {N : Nat} (w : World) (a b : Value) (t : TypeId) (hN : N ≤ w.heap.size) : ZT N (w.alloc (.cells #[a, b] t)) w.heap.size :=
  ⟨hN, by simp, ⟨a, World.cell?_alloc_new w #[a, b] t 0⟩, ⟨b, World.cell?_alloc_new w #[a, b] t 1⟩, fun o => World.cell?_alloc_new w #[a, b] t (o + 2), fun o => by simp⟩
theorem ZT.drew {N : Nat} {w : World} {B : Nat} (h : ZT N w B) : ZT N w.drew B := ⟨h.lo, h.lt, h.c0, h.c1, h.c2, h.fr⟩
theorem ZT.made {N : Nat} {u w : World} {a b : Value} {t : TypeId} (hN : N ≤ u.heap.size) (hb : Below (u.alloc (.cells #[a, b] t)).heap.size (u.alloc (.cells #[a, b] t)) w) : ZT N w u.heap.size := (ZT.new u a b t hN).call hb
theorem ZT.madeD {N : Nat} {u w : World} {a b : Value} {t : TypeId} (hN : N ≤ u.heap.size) (hb : Below (u.alloc (.cells #[a, b] t)).drew.heap.size (u.alloc (.cells #[a, b] t)).drew w) : ZT N w u.heap.size := (ZT.new u a b t hN).drew.call hb
theorem ZT.set2 {N : Nat} {w : World} {B : Nat} (h : ZT N w B) (v0 v1 : Value) : Has ((w.setCell ⟨B, 0, none⟩ v0).setCell ⟨B, 1, none⟩ v1) B #[v0, v1] := by
  obtain ⟨u0, h0⟩ := h.c0
  obtain ⟨u1, h1⟩ := h.c1
  refine ⟨by have := h.lt; simpa using this, fun o => ?_⟩
  rcases o with _ | _ | o
  · simp [go_sem, h0]
  · simp [go_sem, h1]
  · have := h.c2 o
    simp [go_sem, this]
theorem ZT.neq {N : Nat} {w : World} {B U : Nat} {a : Option Addr} (_ : ZT N w B) (hge : ∀ b off sp, a = some ⟨b, off, sp⟩ → U ≤ b) (hB : B < U) : ∀ b off sp, a = some ⟨b, off, sp⟩ → b ≠ B := fun b off sp e => by have := hge b off sp e; omega

theorem Tab.grown {u w' : World} {a : Option Addr} {n : Nat} {q : Nat → PD} {r : Option Nat} (h : Tab u a n q) (hg : u.grownBy w' r) (hne : ∀ b off sp, a = some ⟨b, off, sp⟩ → some b ≠ r) : Tab w' a n q := fun hn => by
  obtain ⟨b, off, e, h1, h2⟩ := h hn
  exact ⟨b, off, e, Nat.lt_of_lt_of_le h1 hg.size, fun i hi j hj => (hg.cell_far ⟨b, off + i * 11 + j, none⟩ h1 (hne b off none e)).trans (h2 i hi j hj)⟩
theorem Has.grown {u w' : World} {B : Nat} {A : Array Value} {r : Option Nat} (h : Has u B A) (hg : u.grownBy w' r) (hne : some B ≠ r) : Has w' B A := ⟨Nat.lt_of_lt_of_le h.1 hg.size, fun o => (hg.cell_far ⟨B, o, none⟩ h.1 hne).trans (h.2 o)⟩

/-- the law under way: its arguments, the model's answer, the program's answer -/
structure LS (w : World) (a : Option Addr) (n cap : Nat) (t : Int) (x v : VD) (B6 : Nat) (a6 : Option Addr) (c6 : Nat) (B9 : Nat) (a9 : Option Addr) (c9 : Nat) (D : TD) (q9 : Nat → PD) (u : World) : Prop where
  p0 : Has u w.heap.size #[.slice a n cap, .int .i64 t]
  p1 : Has u (w.heap.size + 1) (vCs x)
  p2 : Has u (w.heap.size + 1 + 1) (vCs v)
  h6 : Has u B6 #[.slice a6 D.n c6, .int .i64 D.t]
  t6 : Tab u a6 D.n D.q
  h9 : Has u B9 #[.slice a9 D.n c9, .int .i64 D.t]
  t9 : Tab u a9 D.n q9
  b : Below w.heap.size w u
theorem LS.call {w : World} {a : Option Addr} {n cap : Nat} {t : Int} {x v : VD} {B6 : Nat} {a6 : Option Addr} {c6 : Nat} {B9 : Nat} {a9 : Option Addr} {c9 : Nat} {D : TD} {q9 : Nat → PD} {u u' : World} (h : LS w a n cap t x v B6 a6 c6 B9 a9 c9 D q9 u) (hb : Below u.heap.size u u') : LS w a n cap t x v B6 a6 c6 B9 a9 c9 D q9 u' :=
  ⟨h.p0.call hb, h.p1.call hb, h.p2.call hb, h.h6.call hb, h.t6.below hb, h.h9.call hb, h.t9.below hb, below_call h.b hb⟩
theorem LS.drew {w : World} {a : Option Addr} {n cap : Nat} {t : Int} {x v : VD} {B6 : Nat} {a6 : Option Addr} {c6 : Nat} {B9 : Nat} {a9 : Option Addr} {c9 : Nat} {D : TD} {q9 : Nat → PD} {u : World} (h : LS w a n cap t x v B6 a6 c6 B9 a9 c9 D q9 u) : LS w a n cap t x v B6 a6 c6 B9 a9 c9 D q9 u.drew := ⟨h.p0, h.p1, h.p2, h.h6, h.t6, h.h9, h.t9, h.b.drew⟩
theorem LS.alloc {w : World} {a : Option Addr} {n cap : Nat} {t : Int} {x v : VD} {B6 : Nat} {a6 : Option Addr} {c6 : Nat} {B9 : Nat} {a9 : Option Addr} {c9 : Nat} {D : TD} {q9 : Nat → PD} {u : World} (h : LS w a n cap t x v B6 a6 c6 B9 a9 c9 D q9 u) (o : Obj) : LS w a n cap t x v B6 a6 c6 B9 a9 c9 D q9 (u.alloc o) := h.call (below_alloc u o)
theorem LS.g {w : World} {a : Option Addr} {n cap : Nat} {t : Int} {x v : VD} {B6 : Nat} {a6 : Option Addr} {c6 : Nat} {B9 : Nat} {a9 : Option Addr} {c9 : Nat} {D : TD} {q9 : Nat → PD} {u : World} (h : LS w a n cap t x v B6 a6 c6 B9 a9 c9 D q9 u) : G3 w a n cap t x v u := G3.of h.p0 h.p1 h.p2
/-- a row that is none of these is written -/
theorem LS.grown {w : World} {a : Option Addr} {n cap : Nat} {t : Int} {x v : VD} {B6 : Nat} {a6 : Option Addr} {c6 : Nat} {B9 : Nat} {a9 : Option Addr} {c9 : Nat} {D : TD} {q9 q' : Nat → PD} {u u' : World} {r : Option Nat} (h : LS w a n cap t x v B6 a6 c6 B9 a9 c9 D q9 u) (hg : u.grownBy u' r)
    (hr : ∀ k, r = some k → w.heap.size + 1 + 1 < k ∧ k ≠ B6 ∧ k ≠ B9 ∧ ∀ b off sp, a6 = some ⟨b, off, sp⟩ → b ≠ k) (h9 : Tab u' a9 D.n q') : LS w a n cap t x v B6 a6 c6 B9 a9 c9 D q' u' := by
  have e : ∀ B, (∀ k, r = some k → B ≠ k) → some B ≠ r := fun B hB e => hB B e.symm rfl
  refine ⟨h.p0.grown hg (e _ fun k hk => by have := (hr k hk).1; omega), h.p1.grown hg (e _ fun k hk => by have := (hr k hk).1; omega), h.p2.grown hg (e _ fun k hk => by have := (hr k hk).1; omega), h.h6.grown hg (e _ fun k hk => (hr k hk).2.1.symm), h.t6.grown hg (fun b off sp e' => e _ fun k hk => (hr k hk).2.2.2 b off sp e'), h.h9.grown hg (e _ fun k hk => (hr k hk).2.2.1.symm), h9, h.b.grown hg h.b.size (fun k hk => by have := (hr k hk).1; omega)⟩
end Go.Proofs.Ytiidepafifodjaa
