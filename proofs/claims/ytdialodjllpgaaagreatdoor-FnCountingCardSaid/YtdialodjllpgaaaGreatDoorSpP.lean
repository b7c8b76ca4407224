import Derived.Test.YtdialodjllpgaaaGreatDoorOwA
import Derived.Test.YtdialodjllpgaaaGreatDoorVdP
import Derived.Test.YtdialodjllpgaaaGreatDoorSet
import Derived.Deep.RegionWith
import Derived.Laws.StructEq
import Derived.Test.YtdialodjllpgaaaGreatDoorDcA
import Derived.Test.YtdialodjllpgaaaGreatDoorUnB
import Derived.Test.YtdialodjllpgaaaGreatDoorThing
/-! The specification's check of a unit: places and declarations. -/
namespace Go.Proofs.YtdialodjllpgaaaGreatDoor
open Go.RowKit
attribute [local go_sem] run_store_float
attribute [local go_sem ↓] Go.wp_at_zero Go.wp_at_succ

/-- the place of v in a list, or -1 -/
def PlcSays (r : Nat → Int) (n : Nat) (v p : Int) : Prop := (p = -1 ∧ ∀ i, i < n → r i ≠ v) ∨ (∃ i : Nat, p = i ∧ i < n ∧ r i = v ∧ ∀ j, j < i → r j ≠ v)

end Go.Proofs.YtdialodjllpgaaaGreatDoor

/-! The specification's check of a unit: a node's form. -/
namespace Go.Proofs.YtdialodjllpgaaaGreatDoor
open Go.RowKit
attribute [local go_sem] run_store_float
attribute [local go_sem ↓] Go.wp_at_zero Go.wp_at_succ

end Go.Proofs.YtdialodjllpgaaaGreatDoor

/-! Units copied by the laws: nodes, fns, units. -/
namespace Go.Proofs.YtdialodjllpgaaaGreatDoor
open Go.RowKit
attribute [local go_sem] run_store_float

end Go.Proofs.YtdialodjllpgaaaGreatDoor

/-! Units copied by the laws: lists of nodes; fns. -/
namespace Go.Proofs.YtdialodjllpgaaaGreatDoor
open Go.RowKit
attribute [local go_sem] run_store_float

theorem infoNode : (Tryz.prog.info? 95).map (fun i => (i.zero, i.size, i.bytes)) = some (some (.agg #[.int .i64 0, .int .i64 0, .int .i64 0, .int .i64 0, .float .f64 0, .string ⟨#[]⟩, .slice none 0 0, .slice none 0 0]), 8, 104) := by kernel_rfl
theorem infoFn : (Tryz.prog.info? 90).map (fun i => (i.zero, i.size, i.bytes)) = some (some (.agg #[.string ⟨#[]⟩, .int .i64 0, .int .i64 0, .bool false, .slice none 0 0, .slice none 0 0, .slice none 0 0]), 7, 112) := by kernel_rfl
/-- the first k nodes are copied -/
structure NodesIn (w : World) (B k : Nat) (q : Nat → ND) (y : Nat → NA) (n : Nat) (f : Nat → Value) : Prop where
  row : w.rowIs B 95 (n * 8) f
  cells : ∀ m, m < k * 8 → f m = flK 8 (fun i => nodeC (q i) (y i)) m
  nodes : ∀ i, i < k → NodeAt (B + 1) w (q i) (y i)
  caps : ∀ i, i < k → (q i).kn ≤ (y i).kc

end Go.Proofs.YtdialodjllpgaaaGreatDoor

/-! impl.Compare. -/
namespace Go.Proofs.YtdialodjllpgaaaGreatDoor
open Go.RowKit

def cmG (k n : Int) (f : Nat) (s : ByteArray) (r : Int) (k' n' : Int) (f' : Nat) (s' : ByteArray) (r' : Int) : Int :=
  if okB k n f s r = false ∨ okB k' n' f' s' r' = false then 3
  else if k = 4 ∧ k' = 4 then cbs s s'
  else if k = 2 ∧ k' = 2 then cmpI n n'
  else if k = 2 ∧ k' = 3 then mixG n f'
  else if k = 3 ∧ k' = 2 then mixR n' f
  else if k = 3 ∧ k' = 3 then fltG f f'
  else 3

end Go.Proofs.YtdialodjllpgaaaGreatDoor

/-! impl.sameThing, impl.Same. -/
namespace Go.Proofs.YtdialodjllpgaaaGreatDoor
open Go.RowKit

def smG (k n : Int) (f : Nat) (s : ByteArray) (r : Int) (k' n' : Int) (f' : Nat) (s' : ByteArray) (r' : Int) : Bool :=
  if okB k n f s r = false ∨ okB k' n' f' s' r' = false then false
  else if (k = 2 ∨ k = 3) ∧ (k' = 2 ∨ k' = 3) then cmG k n f s r k' n' f' s' r' == 0
  else k == k' && n == n' && s.toList == s'.toList && r == r'

end Go.Proofs.YtdialodjllpgaaaGreatDoor

/-! spec.Compare. -/
namespace Go.Proofs.YtdialodjllpgaaaGreatDoor
open Go.RowKit

end Go.Proofs.YtdialodjllpgaaaGreatDoor

/-! spec.Same, FnExactSame. -/
namespace Go.Proofs.YtdialodjllpgaaaGreatDoor
open Go.RowKit

end Go.Proofs.YtdialodjllpgaaaGreatDoor

/-! spec.l1fail and its kin. -/
namespace Go.Proofs.YtdialodjllpgaaaGreatDoor
open Go.RowKit
attribute [local go_sem] run_store_float

end Go.Proofs.YtdialodjllpgaaaGreatDoor

/-! impl.floatKey, impl.keyOf, impl.Key, spec.Key. -/
namespace Go.Proofs.YtdialodjllpgaaaGreatDoor
open Go.RowKit
attribute [local go_sem] run_store_float
attribute [local go_sem] ta_nil_absent ta_absent_absent ta_flag_absent ta_whole_absent ta_float_absent ta_word_absent ta_builtin_absent ta_made_absent ta_nil_flag ta_absent_flag ta_flag_flag ta_whole_flag ta_float_flag ta_word_flag ta_builtin_flag ta_made_flag ta_nil_whole ta_absent_whole ta_flag_whole ta_whole_whole ta_float_whole ta_word_whole ta_builtin_whole ta_made_whole ta_nil_float ta_absent_float ta_flag_float ta_whole_float ta_float_float ta_word_float ta_builtin_float ta_made_float ta_nil_word ta_absent_word ta_flag_word ta_whole_word ta_float_word ta_word_word ta_builtin_word ta_made_word

/-- a float that is a whole number between the bounds -/
def whB (f : Nat) : Bool := (FloatKind.f64.format.order f ntwo63 == some .gt || FloatKind.f64.format.order f ntwo63 == some .eq) && FloatKind.f64.format.order f two63 == some .lt && FloatKind.f64.format.order f (Fl.floorW f) == some .eq

def fkG (f : Nat) : Value :=
  if FloatKind.f64.format.order f f ≠ some .eq then gV 5 0 0 0 ⟨#[]⟩ 0
  else if whB f then gV 0 2 ((floatToIntVal .f64 f .i64).getD 0) 0 ⟨#[]⟩ 0 else gV 0 3 0 f ⟨#[]⟩ 0

end Go.Proofs.YtdialodjllpgaaaGreatDoor

/-! FnExactValueOk: the walk. -/
namespace Go.Proofs.YtdialodjllpgaaaGreatDoor
open Go.RowKit

end Go.Proofs.YtdialodjllpgaaaGreatDoor
