import Derived.Test.YtiidepafifodjaaPutK
/-! FnExactPut: the second half's bundles. -/
namespace Go.Proofs.Ytiidepafifodjaa
open Go.RowKit

theorem RowW.drew {w : World} {a : Option Addr} {n : Nat} (h : RowW w a n) : RowW w.drew a n := h
theorem RowW.grown {u w' : World} {a : Option Addr} {n : Nat} {r : Option Nat} (h : RowW u a n) (hg : u.grownBy w' r) (hne : ∀ k, blkOf a = some k → some k ≠ r) : RowW w' a n := by
  rcases h with h | ⟨b, cur, T, e, hh, hs⟩
  · exact .inl h
  · exact .inr ⟨b, cur, T, e, (hg.block b (Array.getElem?_eq_some_iff.1 hh).1 (hne b (by rw [e]; rfl))).trans hh, hs⟩

/-- which blocks are which -/
structure FarC (w : World) (B6 : Nat) (a6 : Option Addr) (B9 : Nat) (a9 : Option Addr) (Bc : Nat) : Prop where
  c0 : w.heap.size + 1 + 1 < Bc
  c6 : Bc ≠ B6
  c6a : ∀ b off sp, a6 = some ⟨b, off, sp⟩ → b ≠ Bc
  c9 : Bc ≠ B9
  c9a : ∀ k, blkOf a9 = some k → k ≠ Bc
  n0 : ∀ k, blkOf a9 = some k → w.heap.size + 1 + 1 < k ∧ k ≠ B6 ∧ k ≠ B9 ∧ ∀ b off sp, a6 = some ⟨b, off, sp⟩ → b ≠ k
theorem FarC.of {w : World} {N0 W1 w8 B6 : Nat} {a6 : Option Addr} {B9 : Nat} {a9 : Option Addr} {Bc : Nat} (hN0 : N0 = w.heap.size + 1 + 1 + 1) (hX8 : W1 = w8 + 1) (hNc : Bc < w8 ∧ N0 ≤ Bc ∧ B6 < Bc ∧ ∀ b off sp, a6 = some ⟨b, off, sp⟩ → b < Bc) (hB9 : W1 ≤ B9) (hN9 : ∀ k, blkOf a9 = some k → W1 ≤ k ∧ k ≠ B9) : FarC w B6 a6 B9 a9 Bc := by
  obtain ⟨h1, h2, h3, h4⟩ := hNc
  refine ⟨by omega, by omega, fun b off sp e => by have := h4 b off sp e; omega, by omega, fun k e => by have := (hN9 k e).1; omega, fun k e => ?_⟩
  have := (hN9 k e).1
  exact ⟨by omega, by omega, (hN9 k e).2, fun b off sp e' => by have := h4 b off sp e'; omega⟩

/-- the law up to the first mark -/
structure PK (w : World) (a : Option Addr) (n cap : Nat) (t : Int) (x v : VD) (B6 : Nat) (a6 : Option Addr) (c6 : Nat) (B9 : Nat) (a9 : Option Addr) (c9 : Nat) (D : TD) (q : Nat → PD) (X Bc : Nat) (u : World) : Prop where
  ls : LS w a n cap t x v B6 a6 c6 B9 a9 c9 D D.q u
  xb : TBox u X (some ⟨Bc, 0, none⟩) n n t
  tc : Tab u (some ⟨Bc, 0, none⟩) n q
  rc : RowW u (some ⟨Bc, 0, none⟩) n
  r9 : RowW u a9 D.n
theorem PK.call {w : World} {a : Option Addr} {n cap : Nat} {t : Int} {x v : VD} {B6 : Nat} {a6 : Option Addr} {c6 : Nat} {B9 : Nat} {a9 : Option Addr} {c9 : Nat} {D : TD} {q : Nat → PD} {X Bc : Nat} {u u' : World} (h : PK w a n cap t x v B6 a6 c6 B9 a9 c9 D q X Bc u) (hb : Below u.heap.size u u') : PK w a n cap t x v B6 a6 c6 B9 a9 c9 D q X Bc u' :=
  ⟨h.ls.call hb, h.xb.call hb, h.tc.below hb, h.rc.below hb, h.r9.below hb⟩
theorem PK.drew {w : World} {a : Option Addr} {n cap : Nat} {t : Int} {x v : VD} {B6 : Nat} {a6 : Option Addr} {c6 : Nat} {B9 : Nat} {a9 : Option Addr} {c9 : Nat} {D : TD} {q : Nat → PD} {X Bc : Nat} {u : World} (h : PK w a n cap t x v B6 a6 c6 B9 a9 c9 D q X Bc u) : PK w a n cap t x v B6 a6 c6 B9 a9 c9 D q X Bc u.drew :=
  ⟨h.ls.drew, h.xb.drew, h.tc.drew, h.rc.drew, h.r9.drew⟩
/-- the argument's copy is marked -/
theorem PK.marked {w : World} {a : Option Addr} {n cap : Nat} {t : Int} {x v : VD} {B6 : Nat} {a6 : Option Addr} {c6 : Nat} {B9 : Nat} {a9 : Option Addr} {c9 : Nat} {D : TD} {q : Nat → PD} {X Bc : Nat} {u u' : World} (h : PK w a n cap t x v B6 a6 c6 B9 a9 c9 D q X Bc u) (f : FarC w B6 a6 B9 a9 Bc) (hg : u.grownBy u' (blkOf (some ⟨Bc, 0, none⟩))) : LS w a n cap t x v B6 a6 c6 B9 a9 c9 D D.q u' ∧ RowW u' a9 D.n := by
  have e : blkOf (some ⟨Bc, 0, none⟩) = some Bc := rfl
  rw [e] at hg
  refine ⟨h.ls.grown hg (fun k hk => by cases hk; exact ⟨f.c0, f.c6, f.c9, f.c6a⟩) (h.ls.t9.grown hg fun b off sp e' hb => f.c9a b (by rw [e']; rfl) (Option.some.inj hb)), h.r9.grown hg fun k e' hk => f.c9a k e' (Option.some.inj hk)⟩
/-- the answer is marked -/
theorem LS.marked {w : World} {a : Option Addr} {n cap : Nat} {t : Int} {x v : VD} {B6 : Nat} {a6 : Option Addr} {c6 : Nat} {B9 : Nat} {a9 : Option Addr} {c9 : Nat} {D : TD} {q9 q' : Nat → PD} {Bc : Nat} {u u' : World} (h : LS w a n cap t x v B6 a6 c6 B9 a9 c9 D q9 u) (f : FarC w B6 a6 B9 a9 Bc) (hg : u.grownBy u' (blkOf a9)) (h9 : Tab u' a9 D.n q') : LS w a n cap t x v B6 a6 c6 B9 a9 c9 D q' u' :=
  h.grown hg f.n0 h9
theorem LS.c6 {w : World} {a : Option Addr} {n cap : Nat} {t : Int} {x v : VD} {B6 : Nat} {a6 : Option Addr} {c6 : Nat} {B9 : Nat} {a9 : Option Addr} {c9 : Nat} {D : TD} {q9 : Nat → PD} {u : World} (h : LS w a n cap t x v B6 a6 c6 B9 a9 c9 D q9 u) : u.cell? ⟨B6, 0, none⟩ = some (.slice a6 D.n c6) ∧ u.cell? ⟨B6, 1, none⟩ = some (.int .i64 D.t) := ⟨h.h6.at 0, h.h6.at 1⟩
theorem LS.c9 {w : World} {a : Option Addr} {n cap : Nat} {t : Int} {x v : VD} {B6 : Nat} {a6 : Option Addr} {c6 : Nat} {B9 : Nat} {a9 : Option Addr} {c9 : Nat} {D : TD} {q9 : Nat → PD} {u : World} (h : LS w a n cap t x v B6 a6 c6 B9 a9 c9 D q9 u) : u.cell? ⟨B9, 0, none⟩ = some (.slice a9 D.n c9) ∧ u.cell? ⟨B9, 1, none⟩ = some (.int .i64 D.t) := ⟨h.h9.at 0, h.h9.at 1⟩
end Go.Proofs.Ytiidepafifodjaa
