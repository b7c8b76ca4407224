import Derived.Test.YtdialodjllpgaaaGreatDoorSet
import Derived.Below
import Derived.Test.YtdialodjllpgaaaGreatDoorChecked
import Derived.RowKit
import Derived.Test.YtdialodjllpgaaaGreatDoorThing
import Derived.Test.YtdialodjllpgaaaGreatDoorRows
import Derived.Test.YtdialodjllpgaaaGreatDoorPlain
import Derived.ProofKit
import Derived.OpenShut
import Derived.ShutString
import Derived.ChangeOld
/-! Units: the laws' own size. -/
namespace Go.Proofs.YtdialodjllpgaaaGreatDoor
open Go.RowKit
attribute [local go_sem] run_store_float

/-- what a size says -/
def SzSays (left v : Int) (ok : Prop) : Prop := v = -1 ∨ (0 ≤ v ∧ v ≤ left ∧ ok)

end Go.Proofs.YtdialodjllpgaaaGreatDoor

/-! Units: the laws' own size, of fns and units. -/
namespace Go.Proofs.YtdialodjllpgaaaGreatDoor
open Go.RowKit
attribute [local go_sem] run_store_float

/-- a cell of a block that is held -/
theorem Has.cell {w : World} {B : Nat} {A : Array Value} (h : Has w B A) (j : Nat) {v : Value} (e : A[j]? = some v) : w.cell? ⟨B, j, none⟩ = some v := (h.at j).trans e

end Go.Proofs.YtdialodjllpgaaaGreatDoor

/-! Reports: plain data, how they lie in memory, and the laws' own size of them. -/
namespace Go.Proofs.YtdialodjllpgaaaGreatDoor
open Go.RowKit
attribute [local go_sem] run_store_float

/-- a record -/
structure RcD where
  k : Int
  t : Int
  f : Int
  l : Int
  s : ByteArray
instance : Inhabited RcD := ⟨⟨0, 0, 0, 0, ⟨#[]⟩⟩⟩
/-- a report -/
structure RpD where
  code : Int
  n : Nat
  rc : Nat → RcD
  m : Nat
  v : Nat → ByteArray
  er : ByteArray
  tr : ByteArray
  ti : Int
  ma : Int
structure RcD.wf (d : RcD) : Prop where
  k : I64r d.k
  t : I64r d.t
  f : I64r d.f
  l : I64r d.l
  s : d.s.size ≤ maxLen
structure RpD.wf (d : RpD) : Prop where
  code : I64r d.code
  n : d.n ≤ maxLen
  rc : ∀ i, i < d.n → (d.rc i).wf
  m : d.m ≤ maxLen
  v : ∀ i, i < d.m → (d.v i).size ≤ maxLen
  er : d.er.size ≤ maxLen
  tr : d.tr.size ≤ maxLen
  ti : I64r d.ti
  ma : I64r d.ma
structure RpD.sm (d : RpD) : Prop where
  n : d.n ≤ 1048576
  rc : ∀ i, i < d.n → (d.rc i).s.size ≤ 1048576
  m : d.m ≤ 1048576
  v : ∀ i, i < d.m → (d.v i).size ≤ 1048576
  er : d.er.size ≤ 1048576
  tr : d.tr.size ≤ 1048576
/-- where its lists lie -/
structure RpX where
  ra : Option Addr
  rc : Nat
  va : Option Addr
  vc : Nat
abbrev rcC (d : RcD) : Array Value := #[.int .i64 d.k, .int .i64 d.t, .int .i64 d.f, .int .i64 d.l, .string d.s]
abbrev rcV (d : RcD) : Value := .agg #[.int .i64 d.k, .int .i64 d.t, .int .i64 d.f, .int .i64 d.l, .string d.s]
abbrev rpC (d : RpD) (x : RpX) : Array Value := #[.int .i64 d.code, .slice x.ra d.n x.rc, .slice x.va d.m x.vc, .string d.er, .string d.tr, .int .i64 d.ti, .int .i64 d.ma]
abbrev rpV (d : RpD) (x : RpX) : Value := .agg #[.int .i64 d.code, .slice x.ra d.n x.rc, .slice x.va d.m x.vc, .string d.er, .string d.tr, .int .i64 d.ti, .int .i64 d.ma]
def RcsAt (L : Nat) (w : World) (a : Option Addr) (n : Nat) (q : Nat → RcD) : Prop := RowN 5 L w a n fun i => rcC (q i)
def RpAt (L : Nat) (w : World) (d : RpD) (x : RpX) : Prop := RcsAt L w x.ra d.n d.rc ∧ RowN 1 L w x.va d.m fun i => #[.string (d.v i)]
theorem cellsR {L : Nat} {w : World} {n : Nat} {q : Nat → RcD} {a : Option Addr} (h : RcsAt L w a n q) {k : Nat} (hk : k < n) :
    ∃ b off, a = some ⟨b, off, none⟩ ∧ L ≤ b ∧ b < w.heap.size ∧ w.cell? ⟨b, off + k * 5, none⟩ = some (.int .i64 (q k).k) ∧ w.cell? ⟨b, off + k * 5 + 1, none⟩ = some (.int .i64 (q k).t) ∧ w.cell? ⟨b, off + k * 5 + 2, none⟩ = some (.int .i64 (q k).f) ∧ w.cell? ⟨b, off + k * 5 + 3, none⟩ = some (.int .i64 (q k).l) ∧ w.cell? ⟨b, off + k * 5 + 4, none⟩ = some (.string (q k).s) := by
  obtain ⟨b, off, e, h0, h1, h2⟩ := h (by omega)
  have hc := h2 k hk
  exact ⟨b, off, e, h0, h1, hc 0 (by omega), hc 1 (by omega), hc 2 (by omega), hc 3 (by omega), hc 4 (by omega)⟩

end Go.Proofs.YtdialodjllpgaaaGreatDoor

/-! Blocks of one's own. -/
namespace Go.Proofs.YtdialodjllpgaaaGreatDoor
open Go.RowKit

/-- a block of one's own -/
def OwnB (w : World) (B : Nat) (A : Array Value) : Prop := Has w B A ∧ ∀ o, w.frozen? ⟨B, o, none⟩ = false
theorem OwnB.block {w w' : World} {B : Nat} {A : Array Value} (h : OwnB w B A) (hs : w.heap.size ≤ w'.heap.size) (hk : w'.heap[B]? = w.heap[B]?) : OwnB w' B A :=
  ⟨⟨Nat.lt_of_lt_of_le h.1.1 hs, fun o => (World.cell?_of_block (a := ⟨B, o, none⟩) hk).trans (h.1.2 o)⟩, fun o => (World.frozen?_of_block (a := ⟨B, o, none⟩) hk).trans (h.2 o)⟩
theorem OwnB.set {w : World} {B : Nat} {A : Array Value} (h : OwnB w B A) {o : Nat} (ho : o < A.size) (v : Value) : OwnB (w.setCell ⟨B, o, none⟩ v) B (A.setIfInBounds o v) := by
  refine ⟨⟨by have := h.1.1; simpa using this, fun i => ?_⟩, fun i => by rw [World.frozen?_setCell]; exact h.2 i⟩
  have h0 : w.cell? ⟨B, o, none⟩ = some (A[o]'ho) := by rw [h.1.2 o, Array.getElem?_eq_getElem ho]
  rw [Array.getElem?_setIfInBounds]
  by_cases e : o = i
  · subst e
    rw [if_pos rfl, if_pos ho]
    simp [go_sem, h0]
  · rw [if_neg e, ← h.1.2 i]
    exact World.cell?_setCell_other _ _ _ _ (by intro c; cases c; exact e rfl)
theorem OwnB.new (w : World) (A : Array Value) (t : TypeId) : OwnB (w.alloc (.cells A t)) w.heap.size A := ⟨Has.new w A t, fun o => by simp⟩

def bkOf (a : Option Addr) : Option Nat := a.map (·.block)
theorem own_bk (a : Option Addr) (n cap : Nat) : (Value.slice a n cap).ownBlock = bkOf a := by cases a <;> rfl

end Go.Proofs.YtdialodjllpgaaaGreatDoor

/-! Rows of K cells each: made and filled. -/
namespace Go.Proofs.YtdialodjllpgaaaGreatDoor
open Go.RowKit

/-- cell m of a row of things of K cells each -/
def flK (K : Nat) (c : Nat → Array Value) (m : Nat) : Value := ((c (m / K))[m % K]?).getD undef

theorem frS {B blk o : Nat} {a w : World} (h : Below B a w) (hp : B ≤ blk) (v : Value) : Below B a (w.setCell ⟨blk, o, none⟩ v) := h.setCell (p := ⟨blk, o, none⟩) hp v

end Go.Proofs.YtdialodjllpgaaaGreatDoor

/-! All but one block stays; numbers from the last down. -/
namespace Go.Proofs.YtdialodjllpgaaaGreatDoor
open Go.RowKit
/-- all below N but block B stays -/
structure KN (N B : Nat) (X Y : World) : Prop where
  size : X.heap.size ≤ Y.heap.size
  block : ∀ k, k < N → k ≠ B → Y.heap[k]? = X.heap[k]?
theorem KN.refl (N B : Nat) (X : World) : KN N B X X := ⟨Nat.le_refl _, fun _ _ _ => rfl⟩
theorem KN.trans {N B : Nat} {X Y Z : World} (h : KN N B X Y) (k : KN N B Y Z) : KN N B X Z := ⟨Nat.le_trans h.size k.size, fun i h1 h2 => (k.block i h1 h2).trans (h.block i h1 h2)⟩
theorem KN.of {N B : Nat} {X Y : World} (h : Below N X Y) : KN N B X Y := ⟨h.size, fun i h1 _ => h.block i h1⟩
theorem KN.cell {N B : Nat} {X Y : World} (h : KN N B X Y) {p : Addr} (h1 : p.block < N) (h2 : p.block ≠ B) : Y.cell? p = X.cell? p := World.cell?_of_block (h.block _ h1 h2)
/-- the numbers from the last down -/
def downL (n k : Nat) : List Nat := (List.range k).map fun j => n - 1 - j
theorem downL_len (n k : Nat) : (downL n k).length = k := by simp [downL]
theorem downL_succ (n k : Nat) : downL n (k + 1) = downL n k ++ [n - 1 - k] := by simp [downL, List.range_succ]
end Go.Proofs.YtdialodjllpgaaaGreatDoor

/-! Floats between the bounds of the ints. -/
namespace Go.Proofs.YtdialodjllpgaaaGreatDoor
open Go.RowKit

end Go.Proofs.YtdialodjllpgaaaGreatDoor

/-! The makes of a thing. -/
namespace Go.Proofs.YtdialodjllpgaaaGreatDoor
open Go.RowKit

end Go.Proofs.YtdialodjllpgaaaGreatDoor

/-! A struct of the five fields, opened: what a row hands to its walk. -/
namespace Go.Proofs.YtdialodjllpgaaaGreatDoor
open Go.ChangeShapes Go.WideShapes Go.ChangeAt Go.RowKit
open Go.ChangeMaps (open_string shut_string)


section
variable {H : Type} {enc : TypeId × Value → H} {P : Program} {w : World} {base : Nat} {spare : Nat → Bool} {held : Bool}

end
end Go.Proofs.YtdialodjllpgaaaGreatDoor
