import Derived.Test.YtdialodjllpgaaaGreatDoorSpC
import Derived.Test.YtdialodjllpgaaaGreatDoorUnB
import Derived.Deep.RegionWith
import Derived.Deep.DrawnRows
import Derived.Deep.RegionHeld3
import Derived.Deep.Slices
/-! Inputs: plain data, how they lie in memory, and the laws' own functions over them. -/
namespace Go.Proofs.YtdialodjllpgaaaGreatDoor
open Go.RowKit
attribute [local go_sem] run_store_float

/-- an input -/
structure ID where
  an : Nat
  a : Nat → ByteArray
  ln : Nat
  l : Nat → ByteArray
  t : Int
  d : Int
  c : Int
structure ID.wf (x : ID) : Prop where
  an : x.an ≤ maxLen
  a : ∀ i, i < x.an → (x.a i).size ≤ maxLen
  ln : x.ln ≤ maxLen
  l : ∀ i, i < x.ln → (x.l i).size ≤ maxLen
structure ID.sm (x : ID) : Prop where
  an : x.an ≤ 1048576
  a : ∀ i, i < x.an → (x.a i).size ≤ 1048576
  ln : x.ln ≤ 1048576
  l : ∀ i, i < x.ln → (x.l i).size ≤ 1048576
/-- where its lists lie -/
structure IA where
  aa : Option Addr
  ac : Nat
  la : Option Addr
  lc : Nat
abbrev inC (d : ID) (x : IA) : Array Value := #[.slice x.aa d.an x.ac, .slice x.la d.ln x.lc, .int .i64 d.t, .int .i64 d.d, .int .i64 d.c]
abbrev inV (d : ID) (x : IA) : Value := .agg #[.slice x.aa d.an x.ac, .slice x.la d.ln x.lc, .int .i64 d.t, .int .i64 d.d, .int .i64 d.c]
def StrAt (L : Nat) (w : World) (a : Option Addr) (n : Nat) (q : Nat → ByteArray) : Prop := RowN 1 L w a n fun i => #[.string (q i)]
def InAt (L : Nat) (w : World) (d : ID) (x : IA) : Prop := StrAt L w x.aa d.an d.a ∧ StrAt L w x.la d.ln d.l
theorem InAt.below {L : Nat} {w w' : World} {d : ID} {x : IA} (h : InAt L w d x) (hb : Below w.heap.size w w') : InAt L w' d x := ⟨RowN.below h.1 hb, RowN.below h.2 hb⟩
theorem InAt.alloc {L : Nat} {w : World} {d : ID} {x : IA} (h : InAt L w d x) (o : Obj) : InAt L (w.alloc o) d x := h.below (below_alloc w o)
end Go.Proofs.YtdialodjllpgaaaGreatDoor

/-! Tables: impl.index. -/
namespace Go.Proofs.YtdialodjllpgaaaGreatDoor
open Go.RowKit
attribute [local go_sem] run_store_float
attribute [local go_sem ↓] Go.wp_at_zero Go.wp_at_succ

/-- the turn ahead of place i -/
def lastT (q : Nat → PD) : Nat → Int
  | 0 => 0
  | i + 1 => (q i).turn
def rowOkB (q : Nat → PD) (t : Int) (i : Nat) : Bool := pOkB (q i) && decide (lastT q i < (q i).turn) && decide ((q i).turn ≤ t)
/-- a table that is valid -/
structure TabOk (n : Nat) (t : Int) (q : Nat → PD) : Prop where
  nn : n ≤ 500
  t0 : 0 ≤ t
  t1 : t ≤ 1000000000000
  row : ∀ i, i < n → rowOkB q t i = true
  key : ∀ i j, j < i → i < n → mk (q j).key ≠ mk (q i).key

abbrev xOf (s : Value) (m : Option Nat) (t : Int) : Value := .agg #[s, .map m, .int .i64 t]
abbrev xNo : Value := .tuple #[xOf (.slice none 0 0) none 0, .bool false]

def IndexSays (w : World) (n : Nat) (t : Int) (q : Nat → PD) (e : Ending) (w' : World) : Prop :=
  ((TabOk n t q ∧ ∃ a' cap' B, e = .returned (.tuple #[xOf (.slice a' n cap') (some B) t, .bool true]) ∧ w.heap.size ≤ B ∧ w'.ownsRow w.heap.size 277 11 (.slice a' n cap') n (cellsOf q n) ∧ MapIs w' B (places q n)) ∨
   (¬ TabOk n t q ∧ e = .returned xNo)) ∧ Below w.heap.size w w'

end Go.Proofs.YtdialodjllpgaaaGreatDoor

/-! Tables: where a key is found; how far the keys 1, 2, 3 .. go. -/
namespace Go.Proofs.YtdialodjllpgaaaGreatDoor
open Go.RowKit

/-- the first place of a key -/
def fnd (q : Nat → PD) (m : Mk) : Nat → Option Nat
  | 0 => none
  | n + 1 => match fnd q m n with
    | some i => some i
    | none => if mk (q n).key = m then some n else none

theorem fnd_succ (q : Nat → PD) (m : Mk) (n : Nat) : fnd q m (n + 1) = match fnd q m n with
    | some i => some i
    | none => if mk (q n).key = m then some n else none := rfl
theorem fnd_none {q : Nat → PD} {m : Mk} : ∀ {n : Nat}, (∀ i, i < n → mk (q i).key ≠ m) → fnd q m n = none
  | 0, _ => rfl
  | n + 1, h => by
    unfold fnd
    rw [fnd_none fun i hi => h i (by omega)]
    simp [h n (by omega)]
theorem fnd_at {q : Nat → PD} {m : Mk} : ∀ {n i : Nat}, fnd q m n = some i → i < n ∧ mk (q i).key = m
  | 0, _, h => by simp [fnd] at h
  | n + 1, i, h => by
    unfold fnd at h
    cases c : fnd q m n with
    | some j =>
      rw [c] at h
      simp at h
      subst h
      have := fnd_at c
      exact ⟨by omega, this.2⟩
    | none =>
      rw [c] at h
      simp at h
      obtain ⟨h1, rfl⟩ := h
      exact ⟨by omega, h1⟩
theorem idx_app : ∀ (L L' : List (Mk × Nat)) (m : Mk), idx (L ++ L') m = match idx L m with
    | some p => some p
    | none => (idx L' m).map fun p => (p.1 + L.length, p.2)
  | [], L', m => by simp [idx]
  | (m', j) :: L, L', m => by
    by_cases c : m = m'
    · simp [idx, c]
    · simp only [List.cons_append, idx, if_neg c, idx_app L L' m]
      cases idx L m with
      | some p => rfl
      | none => simp; cases idx L' m <;> simp; omega

theorem idx_places (q : Nat → PD) (m : Mk) : ∀ n, idx ((List.range n).map fun i => (mk (q i).key, i)) m = (fnd q m n).map fun i => (i, i)
  | 0 => rfl
  | n + 1 => by
    rw [List.range_succ, List.map_append, idx_app, idx_places q m n, fnd_succ]
    cases fnd q m n with
    | some i => rfl
    | none =>
      by_cases c : m = mk (q n).key
      · simp [idx, c]
      · simp [idx, c, Ne.symm c]
theorem idx_ok {n : Nat} {t : Int} {q : Nat → PD} (h : TabOk n t q) (m : Mk) : idx (places q n) m = (fnd q m n).map fun i => (i, i) := by
  rw [places_all q n h.key, idx_places]

/-! how far the keys go -/
def iv (i : Int) : VD := ⟨2, i, 0, ⟨#[]⟩, 0⟩
def pres (q : Nat → PD) (n : Nat) (i : Nat) : Prop := ∃ j, j < n ∧ mk (q j).key = mk (iv (i : Int))
structure LenIs (q : Nat → PD) (n r : Nat) : Prop where
  all : ∀ i, i < r → pres q n (i + 1)
  stop : ¬ pres q n (r + 1)
end Go.Proofs.YtdialodjllpgaaaGreatDoor
