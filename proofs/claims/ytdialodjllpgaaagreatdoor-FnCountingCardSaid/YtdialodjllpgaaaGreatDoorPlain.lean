import Derived.Test.YtdialodjllpgaaaGreatDoorChecked
import Derived.WalkKit
import Derived.WalkLawsBesides
import Derived.Below
/-! Plain words over the five fields of a value, and small laws for the walks. -/
namespace Go.Proofs.YtdialodjllpgaaaGreatDoor
open Go.RowKit

theorem run_store_float (P : Program) (w : World) (a : Addr) (m : Mode) (k : FloatKind) (b : Nat) : (store a (.float k b) m).run P w = stored P w a (.float k b) m := run_store P w a _ m rfl
theorem order00 : FloatKind.f64.format.order 0 0 = some Ordering.eq := by decide

/-- a float field that is a zero of either sign -/
def fz (f : Nat) : Bool := FloatKind.f64.format.order f 0 == some Ordering.eq
/-- an empty string -/
def se (s : ByteArray) : Bool := s.toList.isEmpty

/-- the fields that the kind does not use are empty -/
def ueB (k n : Int) (f : Nat) (s : ByteArray) (r : Int) : Bool :=
  if k = 1 ∨ k = 2 ∨ k = 8 then fz f && se s && r == 0
  else if k = 3 then n == 0 && se s && r == 0
  else if k = 4 then n == 0 && fz f && r == 0
  else if k = 5 ∨ k = 6 ∨ k = 7 then n == 0 && fz f && se s
  else n == 0 && fz f && se s && r == 0

/-- what the kind asks of the fields that it uses -/
def usB (k n : Int) (s : ByteArray) (r : Int) : Bool :=
  if k = 0 then true
  else if k = 1 then n == 0 || n == 1
  else if k = 2 then true
  else if k = 3 then true
  else if k = 4 then decide ((s.size : Int) ≤ 4000)
  else if k = 5 ∨ k = 6 ∨ k = 7 then decide (0 ≤ r)
  else if k = 8 then decide (0 ≤ n) && decide (n < 15)
  else false

def okB (k n : Int) (f : Nat) (s : ByteArray) (r : Int) : Bool := ueB k n f s r && usB k n s r

/-- the five fields as a value -/
abbrev vOf (k n : Int) (f : Nat) (s : ByteArray) (r : Int) : Value := .agg #[.int .i64 k, .int .i64 n, .float .f64 f, .string s, .int .i64 r]

theorem ret_bool {a b : Bool} (h : a = b) : Ending.returned (.bool a) = .returned (.bool b) := by rw [h]
theorem ret_int {k : IntKind} {a b : Int} (h : a = b) : Ending.returned (.int k a) = .returned (.int k b) := by rw [h]

theorem bcell {W w1 : World} (hb : Below W.heap.size W w1) : (∀ b o, b < W.heap.size → w1.cell? ⟨b, o, none⟩ = W.cell? ⟨b, o, none⟩) ∧ (∀ b o, b < W.heap.size → w1.frozen? ⟨b, o, none⟩ = W.frozen? ⟨b, o, none⟩) :=
  ⟨fun b o h => hb.cell (p := ⟨b, o, none⟩) h, fun b o h => hb.frozen (p := ⟨b, o, none⟩) h⟩
theorem below_call {w w1 w2 : World} (h1 : Below w.heap.size w w1) (h2 : Below w1.heap.size w1 w2) : Below w.heap.size w w2 := h1.trans (h2.mono h1.size)
theorem below_alloc (w : World) (o : Obj) : Below w.heap.size w (w.alloc o) := (Below.refl _ _).alloc (Nat.le_refl _) _
theorem ret_val {a b : Value} (h : a = b) : Ending.returned a = .returned b := by rw [h]
end Go.Proofs.YtdialodjllpgaaaGreatDoor
